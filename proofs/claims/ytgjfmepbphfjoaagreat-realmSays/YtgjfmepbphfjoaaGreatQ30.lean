/-
  x
-/
import Derived.Test.YtgjfmepbphfjoaaGreatQ29
namespace Go.Proofs.YtgjfmepbphfjoaaGreat
set_option maxRecDepth 100000
set_option maxHeartbeats 4000000
set_option linter.unusedVariables false
open Go.RowKit
theorem znK(ks:List Int)(P:Int->Bool)(q:Nat)(hq:q<ks.length):(ks.take (q+1)).filter P=(ks.take q).filter P++(if P (ks.getD q 0) then [ks.getD q 0] else []):=by
 rw[List.take_succ_eq_append_getElem hq,List.filter_append,zaf ks 0 hq]
 congr 1
 by_cases h:P ks[q]=true <;> simp[h]
theorem ziI(ks:List Int)(P:Int->Bool)(sub:Int->List Int)(q:Nat):(((ks.take q).filter P).flatMap sub).length<=((ks.filter P).flatMap sub).length:=by
 have h:=List.take_append_drop q ks
 have:((ks.filter P).flatMap sub).length=(((ks.take q).filter P).flatMap sub).length+(((ks.drop q).filter P).flatMap sub).length:=by
  rw[<- List.length_append,<- List.flatMap_append,<- List.filter_append,h]
 omega
theorem znO(a:Option Addr)(c:Nat)(S:List Nd)(W:World)(A bs bw bg mb cnt:Nat)(gf:Int->Bool)(wf:WF S)(hC:zeu a c S)(b5:A<W.heap.size)(e9:bs≠A)(f0:bw≠A)(e8:bg≠A)(g1:mb≠A)
  (hnd:∀ w,Off (fun k=>k=A) W w->zae w a S) (cs:W.cell? ⟨bs,0,none⟩=some (.slice a S.length c)) (cw:W.cell? ⟨bw,0,none⟩=some (.func (.func 90) #[] #[.pointer (some ⟨A,0,none⟩),.pointer (some ⟨bs,0,none⟩),.pointer (some ⟨bw,0,none⟩),.pointer (some ⟨bg,0,none⟩)])) (cg:W.cell? ⟨bg,0,none⟩=some (.map (some mb))) (mk:zaA W mb cnt gf) (p:Nat) (hp:p<S.length) (sub:Int->List Int) (a9:∀ b o,a=some ⟨b,o,none⟩->b≠A) (r:Nat) (hr:r<S.length) (er:zbw S p=r)
  (Z:∀ k ∈ (nd S r).ks,∀ l w,l.length+(sub k).length<=1000000->zce W A l w->Calls Tryz.prog 90 #[.int .i64 k,.pointer (some ⟨A,0,none⟩),.pointer (some ⟨bs,0,none⟩),.pointer (some ⟨bw,0,none⟩),.pointer (some ⟨bg,0,none⟩)] w fun e w2=>e=.returned (.tuple #[])/\zce W A (l++sub k) w2)
  (l:List Int) (w:World) (hlen:l.length+1+((nd S r).ks.flatMap sub).length<=1000000) (hI:zce W A l w) :
  Calls Tryz.prog 90 #[.int .i64 (p:Int),.pointer (some ⟨A,0,none⟩),.pointer (some ⟨bs,0,none⟩),.pointer (some ⟨bw,0,none⟩),.pointer (some ⟨bg,0,none⟩)] w fun e w2=>e=.returned (.tuple #[])/\zce W A (l++(p:Int) ::(nd S r).ks.flatMap sub) w2:=by
 obtain⟨i0,f8,g4,g5,g6⟩:=info_parts info3;obtain⟨hO,v,hc,hf,V⟩:=hI;have hN:=wf.small;have g0:l.length+1<=1000000:=by omega
 have h7:=hO.size
 have F:Hid (∀ w2,Off (fun k=>k=A) W w2->w2.cell? ⟨bs,0,none⟩=some (.slice a S.length c)/\w2.cell? ⟨bw,0,none⟩=some (.func (.func 90) #[] #[.pointer (some ⟨A,0,none⟩),.pointer (some ⟨bs,0,none⟩),.pointer (some ⟨bw,0,none⟩),.pointer (some ⟨bg,0,none⟩)])/\w2.cell? ⟨bg,0,none⟩=some (.map (some mb))/\zaA w2 mb cnt gf):=fun w2 h2 =>
  ⟨(h2.cell (by exact ye _ _ cs) (by exact e9)).trans cs,(h2.cell (by exact ye _ _ cw) (by exact f0)).trans cw,(h2.cell (by exact ye _ _ cg) (by exact e8)).trans cg,mk.kept (h2.block mb mk.lt g1)⟩
 have c8:Hid _:=Z;have HL:Hid _:=hlen;have HO:Hid (Off (fun k=>k=A) W w):=hO;have T:Hid (w.ownsRow W.heap.size 3 1 v l.length (l.map (Value.int .i64))):=V;have HC:Hid _:=hc;have HF:Hid _:=hf;have a4:Hid (∀ w,Off (fun k=>k=A) W w->zae w a S):=hnd
 have J:Hid (∀ w,zae w a S->Calls Tryz.prog 91 #[.agg #[.slice a S.length c],.int .i64 (p:Int)] w fun e w' => e=.returned (.int .i64 (r:Int))/\Below w.heap.size w w'):=fun w h1=>by
  have:=zcV a c S (p:Int) w (by omega) (by omega) h1
  rwa [er] at this
 have g3:(r:Int)<(S.length:Int):=by omega
 have h5:((r:Int) == -1)=false:=by simp
 have h6:decide ((r:Int) = -1)=false:=by simp
 have b8:(nd S r).ks.length<=24:=wf.kids_small hr
 have c6:Hid (∀ (ka:Option Addr) (kc nb no:Nat) (w4:World),Off (fun k=>k=A) W w4->a=some ⟨nb,no,none⟩->w4.cell? ⟨nb,no+r*8+5,none⟩=some (.slice ka (nd S r).ks.length kc)->∀ w,Off (fun k=>k=A) W w->zaj w ka (nd S r).ks):=fun ka kc nb no w4 h4 ea k5 w h1=>by
  obtain⟨b1,o1,e1,_,_,_,_,_,⟨h9,i4,k1,i1⟩,_⟩:=hnd w h1 r hr;obtain⟨b0,o0,e0,_,_,_,_,_,⟨h8,i3,k0,i0⟩,_⟩:=hnd W (Off.refl _ _) r hr;have b6:=ye _ _ k0;have b7:b0≠A:=a9 b0 o0 e0;rw[ea] at e0 e1;cases e0;cases e1;have x1:=(h1.cell (p:=⟨nb,no+r*8+5,none⟩) (by exact b6) (by exact b7)).trans k0;have x4:=(h4.cell (p:=⟨nb,no+r*8+5,none⟩) (by exact b6) (by exact b7)).trans k0;rw[x1] at k1;rw[x4] at k5;cases k1;cases k5;exact i1
 clear Z hlen hO V hnd cs cw cg mk hC wf;obtain⟨n,hn⟩:∃ n,S.length=n:=⟨_,rfl⟩;have HN:Hid (S.length=n):=hn;rw[hn] at hN hp hr g3 J F;clear hn a9
 go_enter Tryz.func90,Tryz.ntmps90
 go_wp2_with (at_builtin;refine wpList_append_own _ rfl _ _ 29 rfl W.heap.size 3 i0 (.int .i64 0) 1 8 Tryz.underlying29 f8 g4 g5 g6 rfl (by decide) _ _ _ rfl (T.out.alloc _) ⟨w.heap.size,0,none⟩ 1 1 [.int .i64 (p:Int)] rfl rfl ?c1 ?c2 ?c3 ?c4 ?c5 ?_)
 case c1 =>
  intro j u hj
  match j,hj with
  | 0,hj=>simp at hj;subst hj;simp[Addr.add]
 case c2=>intro u hu;simp at hu;subst hu;rfl
 case c3=>unfold maxLen;omega
 case c4=>omega
 case c5=>simp;omega
 intro v' w2 D O _
 obtain⟨g', I,rfl⟩:∃ g' I,v' = .slice (some ⟨g', 0,none⟩) (l.length+1) I:=by
  rcases D.2 with ⟨_,h⟩ |⟨g', I,g8,h,_⟩
  ·omega
  ·exact⟨g', I,h⟩
 obtain⟨f6,f7,a5⟩:=zce.step b5 HO.out HC.out HF.out T.out _ D O;obtain⟨d7,_,_,_⟩:=F.out _ a5.1;have I2:Hid (zce W A (l++[(p:Int)]) _):=a5;clear D O a5 hc hf
 go_wp2_with fail
 refine yf (J.out _ (a4.out _ I2.out.1)) ?_;rintro e w4 ⟨rfl,b4⟩;have I4:Hid (zce W A (l++[(p:Int)]) w4):=I2.out.below b5 b4;clear I2 b4 f6 f7 d7 J;obtain⟨d8,e6,c9,b9⟩:=F.out _ I4.out.1;have c7:Hid (zaA w4 mb cnt gf):=b9;clear b9;obtain⟨nb,no,ea,_,_,_,_,_,⟨ka,kc,k5,_⟩,_⟩:=a4.out _ I4.out.1 r (by rw[HN.out];exact hr);subst ea;have KI:Hid (∀ w,Off (fun k=>k=A) W w->zaj w ka (nd S r).ks):=c6.out ka kc _ _ w4 I4.out.1 rfl k5;obtain⟨L,hL⟩:∃ z,(nd S r).ks.length=z:=⟨_,rfl⟩;have KL:Hid ((nd S r).ks.length=L):=hL;rw[hL] at k5 b8;clear hL;have I5:Hid (zce W A (l++(p:Int) ::((nd S r).ks.take 0).flatMap sub) w4):=I4.out
 go_wp2_with fail
 go_loopg [30] L (fun g s wr=>∃ q:Nat,q<=L/\L-q<=g/\s=.int .i64 q/\Hid (zce W A (l++(p:Int) ::((nd S r).ks.take q).flatMap sub) wr))
 case atStart=>exact⟨0,by omega,by omega,rfl,I5⟩
 case round =>
  obtain⟨q,hq,hg,rfl,I3⟩:=hrel;clear d8 e6 c9 k5 I5 I4 c7;by_cases a8:q<L
  ·have g7:(q:Int)<(L:Int):=by omega
   obtain⟨d9,g9,d6,_⟩:=F.out _ I3.out.1;obtain⟨i6,i7,e7,_,_,_,_,_,⟨i2,i5,k6,f9⟩,_⟩:=a4.out _ I3.out.1 r (by rw[HN.out];exact hr);obtain⟨kb,ko,ek,h3⟩:=KI.out _ I3.out.1 q (by rw[KL.out];exact a8);cases ek;have U:(nd S r).ks.getD q 0 ∈ (nd S r).ks:=by rw[zaf (nd S r).ks 0 (by rw[KL.out];exact a8)];exact List.getElem_mem _
   have a7:=zgo (nd S r).ks sub q (by rw[KL.out];exact a8);have a6:=zeh (nd S r).ks sub (q+1);rw[a7] at a6;have M:=c8.out ((nd S r).ks.getD q 0) U _ wr (by have:=HL.out;simp only[List.length_append,List.length_cons] at a6 this |-;omega) I3.out;have FT:Hid _:=a7;clear U a7 a6 I3 d9 d6 k6 f9 e7;generalize (nd S r).ks.getD q 0=yy at *
   go_wp2_with fail
   refine yf M ?_;rintro e w3 ⟨rfl,I6⟩
   have I8:zce W A (l++(p:Int) ::((nd S r).ks.take (q+1)).flatMap sub) w3:=by
    rw[FT.out];simpa using I6
   have I7:Hid (zce W A (l++(p:Int) ::((nd S r).ks.take (q+1)).flatMap sub) w3):=I8;clear I6 I8 M
   go_wp2_with fail
   go_roundg (L-(q+1))
   case measure=>omega
   case rel=>exact⟨q+1,by omega,by omega,by go_num,I7⟩
  ·have g2:L=q:=by omega
   subst g2;have E:(nd S r).ks.take L=(nd S r).ks:=by rw[<- KL.out];exact List.take_length
   have I6:=I3.out;rw[E] at I6;have I7:Hid _:=I6;clear I6 E I3
   go_wp2_with fail
   exact yq (v:=.tuple #[]) (by simp[results,Tryz.results90,go_sem]) rfl ⟨rfl,I7.out⟩
theorem znQ(a:Option Addr)(c:Nat)(S:List Nd)(W:World)(A bs bw bg mb cnt:Nat)(gf:Int->Bool)(wf:WF S)(hC:zeu a c S)(b7:A<W.heap.size)(f0:bs≠A)(f6:bw≠A)(e9:bg≠A)(g2:mb≠A)
  (hnd:∀ w,Off (fun k=>k=A) W w->zae w a S) (cs:W.cell? ⟨bs,0,none⟩=some (.slice a S.length c)) (cw:W.cell? ⟨bw,0,none⟩=some (.func (.func 90) #[] #[.pointer (some ⟨A,0,none⟩),.pointer (some ⟨bs,0,none⟩),.pointer (some ⟨bw,0,none⟩),.pointer (some ⟨bg,0,none⟩)])) (cg:W.cell? ⟨bg,0,none⟩=some (.map (some mb))) (mk:zaA W mb cnt gf) (p:Nat) (hp:p<S.length) (sub:Int->List Int) (b5:∀ b o,a=some ⟨b,o,none⟩->b≠A) (er:zbw S p = -1) (gn:gf p=false)
  (Z:∀ k ∈ (nd S p).ks,∀ l w,l.length+(sub k).length<=1000000->zce W A l w->Calls Tryz.prog 90 #[.int .i64 k,.pointer (some ⟨A,0,none⟩),.pointer (some ⟨bs,0,none⟩),.pointer (some ⟨bw,0,none⟩),.pointer (some ⟨bg,0,none⟩)] w fun e w2=>e=.returned (.tuple #[])/\zce W A (l++sub k) w2)
  (l:List Int) (w:World) (hlen:l.length+1+((nd S p).ks.flatMap sub).length<=1000000) (hI:zce W A l w) :
  Calls Tryz.prog 90 #[.int .i64 (p:Int),.pointer (some ⟨A,0,none⟩),.pointer (some ⟨bs,0,none⟩),.pointer (some ⟨bw,0,none⟩),.pointer (some ⟨bg,0,none⟩)] w fun e w2=>e=.returned (.tuple #[])/\zce W A (l++(p:Int) ::(nd S p).ks.flatMap sub) w2:=by
 obtain⟨i0,f9,g6,g7,g8⟩:=info_parts info3;obtain⟨hO,v,hc,hf,V⟩:=hI;have hN:=wf.small;have g1:l.length+1<=1000000:=by omega
 have h7:=hO.size
 have F:Hid (∀ w2,Off (fun k=>k=A) W w2->w2.cell? ⟨bs,0,none⟩=some (.slice a S.length c)/\w2.cell? ⟨bw,0,none⟩=some (.func (.func 90) #[] #[.pointer (some ⟨A,0,none⟩),.pointer (some ⟨bs,0,none⟩),.pointer (some ⟨bw,0,none⟩),.pointer (some ⟨bg,0,none⟩)])/\w2.cell? ⟨bg,0,none⟩=some (.map (some mb))/\zaA w2 mb cnt gf):=fun w2 h2 =>
  ⟨(h2.cell (by exact ye _ _ cs) (by exact f0)).trans cs,(h2.cell (by exact ye _ _ cw) (by exact f6)).trans cw,(h2.cell (by exact ye _ _ cg) (by exact e9)).trans cg,mk.kept (h2.block mb mk.lt g2)⟩
 have c9:Hid _:=Z;have HL:Hid _:=hlen;have HO:Hid (Off (fun k=>k=A) W w):=hO;have T:Hid (w.ownsRow W.heap.size 3 1 v l.length (l.map (Value.int .i64))):=V;have HC:Hid _:=hc;have HF:Hid _:=hf;have a4:Hid (∀ w,Off (fun k=>k=A) W w->zae w a S):=hnd
 have J:Hid (∀ w,zae w a S->Calls Tryz.prog 91 #[.agg #[.slice a S.length c],.int .i64 (p:Int)] w fun e w' => e=.returned (.int .i64 (-1))/\Below w.heap.size w w'):=fun w h1=>by
  have:=zcV a c S (p:Int) w (by omega) (by omega) h1
  rwa [er] at this
 have g3:(p:Int)<(S.length:Int):=by omega
 have c6:(nd S p).ks.length<=24:=wf.kids_small hp
 have c8:Hid (∀ (ka:Option Addr) (kc nb no:Nat) (w4:World),Off (fun k=>k=A) W w4->a=some ⟨nb,no,none⟩->w4.cell? ⟨nb,no+p*8+5,none⟩=some (.slice ka (nd S p).ks.length kc)->∀ w,Off (fun k=>k=A) W w->zaj w ka (nd S p).ks):=fun ka kc nb no w4 h4 ea k5 w h1=>by
  obtain⟨b1,o1,e1,_,_,_,_,_,⟨h9,i4,k1,i1⟩,_⟩:=hnd w h1 p hp;obtain⟨b0,o0,e0,_,_,_,_,_,⟨h8,i3,k0,i0⟩,_⟩:=hnd W (Off.refl _ _) p hp;have b8:=ye _ _ k0;have b9:b0≠A:=b5 b0 o0 e0;rw[ea] at e0 e1;cases e0;cases e1;have x1:=(h1.cell (p:=⟨nb,no+p*8+5,none⟩) (by exact b8) (by exact b9)).trans k0;have x4:=(h4.cell (p:=⟨nb,no+p*8+5,none⟩) (by exact b8) (by exact b9)).trans k0;rw[x1] at k1;rw[x4] at k5;cases k1;cases k5;exact i1
 clear Z hlen hO V hnd cs cw cg mk hC wf;obtain⟨n,hn⟩:∃ n,S.length=n:=⟨_,rfl⟩;have HN:Hid (S.length=n):=hn;rw[hn] at hN hp g3 J F;clear hn b5
 go_enter Tryz.func90,Tryz.ntmps90
 go_wp2_with (at_builtin;refine wpList_append_own _ rfl _ _ 29 rfl W.heap.size 3 i0 (.int .i64 0) 1 8 Tryz.underlying29 f9 g6 g7 g8 rfl (by decide) _ _ _ rfl (T.out.alloc _) ⟨w.heap.size,0,none⟩ 1 1 [.int .i64 (p:Int)] rfl rfl ?c1 ?c2 ?c3 ?c4 ?c5 ?_)
 case c1 =>
  intro j u hj
  match j,hj with
  | 0,hj=>simp at hj;subst hj;simp[Addr.add]
 case c2=>intro u hu;simp at hu;subst hu;rfl
 case c3=>unfold maxLen;omega
 case c4=>omega
 case c5=>simp;omega
 intro v' w2 D O _
 obtain⟨g', I,rfl⟩:∃ g' I,v' = .slice (some ⟨g', 0,none⟩) (l.length+1) I:=by
  rcases D.2 with ⟨_,h⟩ |⟨g', I,h3,h,_⟩
  ·omega
  ·exact⟨g', I,h⟩
 obtain⟨f7,f8,a5⟩:=zce.step b7 HO.out HC.out HF.out T.out _ D O;obtain⟨d8,_,_,_⟩:=F.out _ a5.1;have I2:Hid (zce W A (l++[(p:Int)]) _):=a5;clear D O a5 hc hf
 go_wp2_with fail
 refine yf (J.out _ (a4.out _ I2.out.1)) ?_;rintro e w4 ⟨rfl,b6⟩;have I4:Hid (zce W A (l++[(p:Int)]) w4):=I2.out.below b7 b6;clear I2 b6 f7 f8 d8 J;obtain⟨d9,e7,d6,c7⟩:=F.out _ I4.out.1;have b4:Hid (zaA w4 mb cnt gf):=c7;clear c7;have g5:=zir (q:=p) (by omega);have a8:=b4.out.look (t:=125) Tryz.underlying125 (k:=(p:Int)) g5;rw[gn] at a8;obtain⟨nb,no,ea,_,_,_,_,_,⟨ka,kc,k5,_⟩,_⟩:=a4.out _ I4.out.1 p (by rw[HN.out];exact hp);subst ea;have KI:Hid (∀ w,Off (fun k=>k=A) W w->zaj w ka (nd S p).ks):=c8.out ka kc _ _ w4 I4.out.1 rfl k5;obtain⟨L,hL⟩:∃ z,(nd S p).ks.length=z:=⟨_,rfl⟩;have KL:Hid ((nd S p).ks.length=L):=hL;rw[hL] at k5 c6;clear hL;have I5:Hid (zce W A (l++(p:Int) ::((nd S p).ks.take 0).flatMap sub) w4):=I4.out
 go_wp2_with fail
 go_loopg [78] L (fun g s wr=>∃ q:Nat,q<=L/\L-q<=g/\s=.int .i64 q/\Hid (zce W A (l++(p:Int) ::((nd S p).ks.take q).flatMap sub) wr))
 case atStart=>exact⟨0,by omega,by omega,rfl,I5⟩
 case round =>
  obtain⟨q,hq,hg,rfl,I3⟩:=hrel;clear d9 e7 d6 k5 I5 I4 b4;by_cases a9:q<L
  ·have g9:(q:Int)<(L:Int):=by omega
   obtain⟨e6,h5,d7,_⟩:=F.out _ I3.out.1;obtain⟨i6,i7,e8,_,_,_,_,_,⟨i2,i5,k6,g0⟩,_⟩:=a4.out _ I3.out.1 p (by rw[HN.out];exact hp);obtain⟨kb,ko,ek,h6⟩:=KI.out _ I3.out.1 q (by rw[KL.out];exact a9);cases ek;have U:(nd S p).ks.getD q 0 ∈ (nd S p).ks:=by rw[zaf (nd S p).ks 0 (by rw[KL.out];exact a9)];exact List.getElem_mem _
   have a7:=zgo (nd S p).ks sub q (by rw[KL.out];exact a9);have a6:=zeh (nd S p).ks sub (q+1);rw[a7] at a6;have M:=c9.out ((nd S p).ks.getD q 0) U _ wr (by have:=HL.out;simp only[List.length_append,List.length_cons] at a6 this |-;omega) I3.out;have FT:Hid _:=a7;clear U a7 a6 I3 e6 d7 k6 g0 e8;generalize (nd S p).ks.getD q 0=yy at *
   go_wp2_with fail
   refine yf M ?_;rintro e w3 ⟨rfl,I6⟩
   have I8:zce W A (l++(p:Int) ::((nd S p).ks.take (q+1)).flatMap sub) w3:=by
    rw[FT.out];simpa using I6
   have I7:Hid (zce W A (l++(p:Int) ::((nd S p).ks.take (q+1)).flatMap sub) w3):=I8;clear I6 I8 M
   go_wp2_with fail
   go_roundg (L-(q+1))
   case measure=>omega
   case rel=>exact⟨q+1,by omega,by omega,by go_num,I7⟩
  ·have g4:L=q:=by omega
   subst g4;have E:(nd S p).ks.take L=(nd S p).ks:=by rw[<- KL.out];exact List.take_length
   have I6:=I3.out;rw[E] at I6;have I7:Hid _:=I6;clear I6 E I3
   go_wp2_with fail
   exact bodyPost_end (v:=.tuple #[]) (by simp[results,Tryz.results90,go_sem]) rfl ⟨rfl,I7.out⟩
theorem znP(a:Option Addr)(c:Nat)(S:List Nd)(W:World)(A bs bw bg mb cnt:Nat)(gf:Int->Bool)(wf:WF S)(hC:zeu a c S)(T:A<W.heap.size)(i8:bs≠A)(i9:bw≠A)(i7:bg≠A)(j4:mb≠A)
  (hnd:∀ w,Off (fun k=>k=A) W w->zae w a S) (cs:W.cell? ⟨bs,0,none⟩=some (.slice a S.length c)) (cw:W.cell? ⟨bw,0,none⟩=some (.func (.func 90) #[] #[.pointer (some ⟨A,0,none⟩),.pointer (some ⟨bs,0,none⟩),.pointer (some ⟨bw,0,none⟩),.pointer (some ⟨bg,0,none⟩)])) (cg:W.cell? ⟨bg,0,none⟩=some (.map (some mb))) (mk:zaA W mb cnt gf) (p:Nat) (hp:p<S.length) (sub:Int->List Int) (f6:∀ b o,a=some ⟨b,o,none⟩->b≠A) (er:zbw S p = -1) (gn:gf p=true) (r H:Nat) (rest:List Int) (hr:r<S.length) (hH:H<S.length) (j8:(nd S r).h=H) (g6:zdU S p=(r:Int) :: rest)
  (b4:∀ k ∈ ((nd S H).ks.filter (fun c=>decide (toF S c.toNat=(p:Int)))),∀ l w,l.length+(sub k).length<=1000000->zce W A l w->Calls Tryz.prog 90 #[.int .i64 k,.pointer (some ⟨A,0,none⟩),.pointer (some ⟨bs,0,none⟩),.pointer (some ⟨bw,0,none⟩),.pointer (some ⟨bg,0,none⟩)] w fun e w2=>e=.returned (.tuple #[])/\zce W A (l++sub k) w2)
  (l:List Int) (w:World) (hlen:l.length+1+(((nd S H).ks.filter (fun c=>decide (toF S c.toNat=(p:Int)))).flatMap sub).length<=1000000) (hI:zce W A l w) :
  Calls Tryz.prog 90 #[.int .i64 (p:Int),.pointer (some ⟨A,0,none⟩),.pointer (some ⟨bs,0,none⟩),.pointer (some ⟨bw,0,none⟩),.pointer (some ⟨bg,0,none⟩)] w fun e w2=>e=.returned (.tuple #[])/\zce W A (l++(p:Int) ::((nd S H).ks.filter (fun c=>decide (toF S c.toNat=(p:Int)))).flatMap sub) w2:=by
 obtain⟨i0,j2,k4,k6,k7⟩:=info_parts info3;obtain⟨hO,v,hc,hf,a8⟩:=hI;have hN:=wf.small;have j3:l.length+1<=1000000:=by omega
 have l3:=hO.size
 have D:Hid (∀ w2,Off (fun k=>k=A) W w2->w2.cell? ⟨bs,0,none⟩=some (.slice a S.length c)/\w2.cell? ⟨bw,0,none⟩=some (.func (.func 90) #[] #[.pointer (some ⟨A,0,none⟩),.pointer (some ⟨bs,0,none⟩),.pointer (some ⟨bw,0,none⟩),.pointer (some ⟨bg,0,none⟩)])/\w2.cell? ⟨bg,0,none⟩=some (.map (some mb))/\zaA w2 mb cnt gf):=fun w2 h2 =>
  ⟨(h2.cell (by exact ye _ _ cs) (by exact i8)).trans cs,(h2.cell (by exact ye _ _ cw) (by exact i9)).trans cw,(h2.cell (by exact ye _ _ cg) (by exact i7)).trans cg,mk.kept (h2.block mb mk.lt j4)⟩
 have f0:Hid _:=b4;have HL:Hid _:=hlen;have HO:Hid (Off (fun k=>k=A) W w):=hO;have a6:Hid (w.ownsRow W.heap.size 3 1 v l.length (l.map (Value.int .i64))):=a8;have HC:Hid _:=hc;have HF:Hid _:=hf;have M:Hid (∀ w,Off (fun k=>k=A) W w->zae w a S):=hnd
 have O:Hid (∀ w,zae w a S->Calls Tryz.prog 91 #[.agg #[.slice a S.length c],.int .i64 (p:Int)] w fun e w' => e=.returned (.int .i64 (-1))/\Below w.heap.size w w'):=fun w h1=>by
  have:=zcV a c S (p:Int) w (by omega) (by omega) h1
  rwa [er] at this
 have j5:(p:Int)<(S.length:Int):=by omega
 have e9:Hid (∀ w,zae w a S->Calls _ _ _ _ _):=fun w h1=>zmG a c S p w hN hp h1;have TO:Hid (∀ (y:Nat),y<S.length->∀ w,zae w a S->Calls _ _ _ _ _):=fun y hy w h1=>zoW a c S y w wf hC hy h1
 have KP:Hid (∀ j,j<(nd S H).ks.length->∃ y:Nat,(nd S H).ks.getD j 0=y/\y<S.length):=fun j hj=>by
  obtain⟨k,e,hk,_⟩:=wf.kid hH (x:=(nd S H).ks.getD j 0) (by rw[zaf _ _ hj];exact List.getElem_mem hj);exact⟨k,e,hk⟩
 have j7:(r:Int)<(S.length:Int):=by omega
 have i6:(H:Int)<(S.length:Int):=by omega
 have b7:Hid (zdU S p=(r:Int) :: rest):=g6;have b5:(nd S H).ks.length<=24:=wf.kids_small hH
 have e7:Hid (∀ (ka:Option Addr) (kc nb no:Nat) (w4:World),Off (fun k=>k=A) W w4->a=some ⟨nb,no,none⟩->w4.cell? ⟨nb,no+H*8+5,none⟩=some (.slice ka (nd S H).ks.length kc)->∀ w,Off (fun k=>k=A) W w->zaj w ka (nd S H).ks):=fun ka kc nb no w4 h4 ea k5 w h1=>by
  obtain⟨b1,o1,e1,_,_,_,_,_,⟨l5,l7,k1,i1⟩,_⟩:=hnd w h1 H hH;obtain⟨b0,o0,e0,_,_,_,_,_,⟨l4,l6,k0,i0⟩,_⟩:=hnd W (Off.refl _ _) H hH;have g2:=ye _ _ k0;have g3:b0≠A:=f6 b0 o0 e0;rw[ea] at e0 e1;cases e0;cases e1;have x1:=(h1.cell (p:=⟨nb,no+H*8+5,none⟩) (by exact g2) (by exact g3)).trans k0;have x4:=(h4.cell (p:=⟨nb,no+H*8+5,none⟩) (by exact g2) (by exact g3)).trans k0;rw[x1] at k1;rw[x4] at k5;cases k1;cases k5;exact i1
 clear b4 hlen hO a8 hnd cs cw cg mk hC wf;obtain⟨n,hn⟩:∃ n,S.length=n:=⟨_,rfl⟩;have HN:Hid (S.length=n):=hn;rw[hn] at hN hp j5 hr hH j7 i6 O D e9 TO KP;clear hn f6;clear g6;obtain⟨ks,c9⟩:∃ z,(nd S H).ks=z:=⟨_,rfl⟩;have g9:Hid ((nd S H).ks=ks):=c9;rw[c9] at e7 b5 f0 HL KP |-;clear c9
 go_enter Tryz.func90,Tryz.ntmps90
 go_wp2_with (at_builtin;refine wpList_append_own _ rfl _ _ 29 rfl W.heap.size 3 i0 (.int .i64 0) 1 8 Tryz.underlying29 j2 k4 k6 k7 rfl (by decide) _ _ _ rfl (a6.out.alloc _) ⟨w.heap.size,0,none⟩ 1 1 [.int .i64 (p:Int)] rfl rfl ?c1 ?c2 ?c3 ?c4 ?c5 ?_)
 case c1 =>
  intro j u hj
  match j,hj with
  | 0,hj=>simp at hj;subst hj;simp[Addr.add]
 case c2=>intro u hu;simp at hu;subst hu;rfl
 case c3=>unfold maxLen;omega
 case c4=>omega
 case c5=>simp;omega
 intro v' w2 F V _
 obtain⟨g', I,rfl⟩:∃ g' I,v' = .slice (some ⟨g', 0,none⟩) (l.length+1) I:=by
  rcases F.2 with ⟨_,h⟩ |⟨g', I,k9,h,_⟩
  ·omega
  ·exact⟨g', I,h⟩
 obtain⟨j0,j1,c7⟩:=zce.step T HO.out HC.out HF.out a6.out _ F V;obtain⟨h9,_,_,_⟩:=D.out _ c7.1;have I2:Hid (zce W A (l++[(p:Int)]) _):=c7;clear F V c7 hc hf
 go_wp2_with fail
 refine yf (O.out _ (M.out _ I2.out.1)) ?_;rintro e w4 ⟨rfl,f7⟩;have I4:Hid (zce W A (l++[(p:Int)]) w4):=I2.out.below T f7;clear I2 f7 j0 j1 h9 O;obtain⟨i2,i4,h7,g7⟩:=D.out _ I4.out.1;have e8:Hid (zaA w4 mb cnt gf):=g7;clear g7;have k2:=zir (q:=p) (by omega);have Z:=e8.out.look (t:=125) Tryz.underlying125 (k:=(p:Int)) k2;rw[gn] at Z
 go_wp2_with fail
 refine yf (e9.out _ (M.out _ I4.out.1)) ?_;rintro e w5 ⟨v5,rfl,f8,a4⟩;obtain⟨ra,rc,j9,g5⟩:=zcp a4;subst j9;have I5:Hid (zce W A (l++[(p:Int)]) w5):=I4.out.below T f8;obtain⟨rb,ro,i5,d6⟩:=g5 0 (by rw[b7.out];simp);rw[b7.out,Nat.add_zero] at d6;have l2:(0:Int)<((zdU S p).length:Int):=by rw[b7.out];first|(simp;done)|(simp;omega)
 subst i5;have a9:w5.cell? ⟨rb,ro,none⟩=some (.int .i64 (r:Int)):=d6;clear I4 f8 a4 g5 d6 Z e8 i2 i4 h7;generalize (zdU S p).length=rl at *;obtain⟨b9,c6,b8,_⟩:=D.out _ I5.out.1;obtain⟨nb,no,ea,_,_,_,_,_,_,h6,_⟩:=M.out _ I5.out.1 r (by rw[HN.out];exact hr);subst ea;rw[j8] at h6;obtain⟨l8,l9,ea,_,_,_,_,_,⟨ka,kc,k5,_⟩,_⟩:=M.out _ I5.out.1 H (by rw[HN.out];exact hH);cases ea;rw[g9.out] at k5;have KI:Hid (∀ w,Off (fun k=>k=A) W w->zaj w ka ks):=e7.out ka kc _ _ w5 I5.out.1 rfl k5;have z1:=ye _ _ a9;have z2:=ye _ _ h6;obtain⟨L,hL⟩:∃ z,ks.length=z:=⟨_,rfl⟩;have KL:Hid (ks.length=L):=hL;rw[hL] at k5 b5 KP;clear hL;have J:Hid (∀ nn,zce W A (l++(p:Int) ::((ks.take 0).filter (fun c=>decide (toF S c.toNat=(p:Int)))).flatMap sub) (w5.drewN nn)):=fun nn=>I5.out.below T (Below.drewNs (yj _ _) nn)
 go_wp2_with fail
 go_big_quiet (fail)
 go_wp2_with fail
 go_loopg [58] L (fun g s wr=>∃ q:Nat,q<=L/\L-q<=g/\s=.int .i64 q/\Hid (zce W A (l++(p:Int) ::((ks.take q).filter (fun c=>decide (toF S c.toNat=(p:Int)))).flatMap sub) wr))
 case atStart=>exact⟨0,by omega,by omega,rfl,J.out _⟩
 case round =>
  obtain⟨q,hq,hg,rfl,I3⟩:=hrel;clear b9 c6 b8 k5 I5 J h6 a9 z1 z2;by_cases g4:q<L
  ·have k8:(q:Int)<(L:Int):=by omega
   have a5:q<ks.length:=by rw[KL.out];exact g4
   obtain⟨b9,c6,b8,_⟩:=D.out _ I3.out.1;obtain⟨kb,ko,ek,g1⟩:=KI.out _ I3.out.1 q a5;subst ek;obtain⟨y,hy,k3⟩:=KP.out q g4;rw[hy] at g1;have c8:=znK ks (fun c=>decide (toF S c.toNat=(p:Int))) q a5;rw[hy] at c8;have g0:=ziI ks (fun c=>decide (toF S c.toNat=(p:Int))) sub (q+1);have a7:(y:Int) ∈ ks:=by rw[<- hy,zaf ks 0 a5];exact List.getElem_mem _
   have h5:Hid _:=TO.out y k3
   have FT:Hid ((ks.take (q+1)).filter (fun c=>decide (toF S c.toNat=(p:Int)))=(ks.take q).filter (fun c=>decide (toF S c.toNat=(p:Int)))++(if decide (toF S y=(p:Int)) then [(y:Int)] else [])):=by
    show _=_;rw[c8,yg]
   have g8:Hid _:=g0;have e6:Hid _:=a7;clear c8 g0 a7 a5 hy
   go_wp2_with fail
   refine yf (h5.out _ (M.out _ I3.out.1)) ?_;rintro e w6 ⟨rfl,f9⟩;have J:Hid (zce W A (l++(p:Int) ::((ks.take q).filter (fun c=>decide (toF S c.toNat=(p:Int)))).flatMap sub) w6):=I3.out.below T f9;clear I3 f9 b9 c6 b8 g1;obtain⟨i3,l0,h8,_⟩:=D.out _ J.out.1;obtain⟨tt,d8⟩:∃ z,toF S y=z:=⟨_,rfl⟩;have h3:Hid (toF S y=tt):=d8;rw[d8] at FT |-;clear d8;by_cases d7:tt=(p:Int)
   ·subst d7;have d9:Hid ((ks.take (q+1)).filter (fun c=>decide (toF S c.toNat=(p:Int)))=(ks.take q).filter (fun c=>decide (toF S c.toNat=(p:Int)))++[(y:Int)]):=by show _=_;rw[FT.out];simp
    have U:=f0.out (y:Int) (by rw[List.mem_filter];exact⟨e6.out,by rw[yg,h3.out];simp⟩) _ w6 (by
     have h1:=HL.out;have h2:=g8.out;rw[d9.out,List.flatMap_append] at h2;simp only[List.length_append,List.length_cons,List.flatMap_cons,List.flatMap_nil,List.append_nil] at h1 h2 |-
     omega) J.out
    have b6:Hid _:=U;clear U FT J i3 h8
    go_wp2_with fail
    refine yf b6.out ?_;rintro e w7 ⟨rfl,I7⟩
    have I8:zce W A (l++(p:Int) ::((ks.take (q+1)).filter (fun c=>decide (toF S c.toNat=(p:Int)))).flatMap sub) w7:=by
     rw[d9.out,List.flatMap_append];simpa using I7
    have I9:Hid (zce W A (l++(p:Int) ::((ks.take (q+1)).filter (fun c=>decide (toF S c.toNat=(p:Int)))).flatMap sub) w7):=I8;clear I7 I8
    go_wp2_with fail
    go_roundg (L-(q+1))
    case measure=>omega
    case rel=>exact⟨q+1,by omega,by omega,by go_num,I9⟩
   ·have hd:decide (tt=(p:Int))=false:=decide_eq_false d7;have l1:(tt ==(p:Int))=false:=beq_eq_false_iff_ne.2 d7
    have I8:zce W A (l++(p:Int) ::((ks.take (q+1)).filter (fun c=>decide (toF S c.toNat=(p:Int)))).flatMap sub) w6:=by
     have h:=J.out;rw[FT.out,hd];simpa using h
    have I9:Hid (zce W A (l++(p:Int) ::((ks.take (q+1)).filter (fun c=>decide (toF S c.toNat=(p:Int)))).flatMap sub) w6):=I8;clear FT J I8
    go_wp2_with fail
    go_roundg (L-(q+1))
    case measure=>omega
    case rel=>exact⟨q+1,by omega,by omega,by go_num,I9⟩
  ·have j6:L=q:=by omega
   subst j6;have E:ks.take L=ks:=by rw[<- KL.out];exact List.take_length
   have J:=I3.out;rw[E] at J;have I7:Hid _:=J;clear J E I3
   go_wp2_with fail
   exact yq (v:=.tuple #[]) (by simp[results,Tryz.results90,go_sem]) rfl ⟨rfl,I7.out⟩
end Go.Proofs.YtgjfmepbphfjoaaGreat
