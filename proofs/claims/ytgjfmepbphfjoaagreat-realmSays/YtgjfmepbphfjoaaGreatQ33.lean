/-
  x
-/
import Derived.Test.YtgjfmepbphfjoaaGreatQ28
import Derived.Test.YtgjfmepbphfjoaaGreatQ32
namespace Go.Proofs.YtgjfmepbphfjoaaGreat
set_option maxRecDepth 100000
set_option maxHeartbeats 4000000
set_option linter.unusedVariables false
open Go.RowKit
theorem zoP(a:Option Addr)(c:Nat)(S:List Nd)(k:Nat)(u:Int)(qa:Option Addr)(qc:Nat)(q:List Tst)(w:World)(wf:WF S)(hk:k<S.length)(h9:(nd S k).u=true)(hT:zar S [((k:Int),u)]=0)(hS:zae w a S)(hQ:zaP w qa q)(hq:zcA q=0)(hC:zeu a c S) :
  Calls Tryz.prog 42 #[.agg #[.slice a S.length c],.agg #[.int .i64 (k:Int),.int .i64 u],.slice qa q.length qc] w fun e w' => ∃ fa fc,e=.returned (.tuple #[.slice fa (zcQ S k q).length fc,.int .i64 0])/\Below w.heap.size w w' /\ zaj w' fa (zcQ S k q)/\(zcQ S k q).length<=24/\∀ x:Addr,fa=some x->w.heap.size<=x.block:=by
 have hN:=wf.small;have hB:=wf.big;have hlen:=zhv hq;have b9:=zhr wf hk h9;have D1:Hid (∀ W,zae W a S->Calls _ _ _ _ _):=fun W hW=>zjm a c S k u W wf hC hW hk hT;have d2:=fun W (hW:zaP W qa q)=>zjn qa qc q W (by omega) hW;rw[hq] at d2;have D2:Hid _:=d2;have D3:Hid (∀ (p:Nat) W,p<S.length->zae W a S->zaP W qa q->Calls _ _ _ _ _):=fun p W hp h1 h2=>zoQ a c S p qa qc q W wf hp h1 hlen.1 hlen.2 h2;have HS:Hid (zae w a S):=hS;have HQ:Hid (zaP w qa q):=hQ
 have e8:Hid (∀ i,i<(zan S k).tail.length->∃ p:Nat,(zan S k).tail.getD i 0=p/\p<S.length):=fun i Z=>by
  rw[List.length_tail] at Z;obtain⟨p,e,hp,_⟩:=b9.each (i+1) (by omega);refine⟨p,?_,hp⟩;rw[<- e,zaf _ _ (by rw[List.length_tail];omega),zaf _ _ (by omega),List.getElem_tail]
 have c7:=b9.pos;have g2:=b9.small
 have TL:Hid (∀ W sa,zaj W sa (zan S k)->∃ b o,sa=some ⟨b,o,none⟩/\zaj W (some ⟨b,o+1,none⟩) (zan S k).tail):=fun W sa h=>by
  obtain⟨b,o,e,_⟩:=h 0 c7;refine⟨b,o,e,fun i Z=>⟨b,o+1,rfl,?_⟩⟩;rw[List.length_tail] at Z;obtain⟨b', o', e', hc⟩:=h (i+1) (by omega);rw[e] at e'
  cases e'
  rw[show o+1+i=o+(i+1) by omega,hc,zaf _ _ (by omega),zaf _ _ (by rw[List.length_tail];omega),List.getElem_tail]
 have FT:Hid (∀ i,i<(zan S k).tail.length->((zan S k).tail.take (i+1)).filter (fun p=>zbE S p q)=((zan S k).tail.take i).filter (fun p=>zbE S p q)++(if zbE S ((zan S k).tail.getD i 0) q then [(zan S k).tail.getD i 0] else [])):=fun i Z=>zgn _ _ i Z;have FE:Hid (zcQ S k q=((zan S k).tail.take (zan S k).tail.length).filter (fun p=>zbE S p q)):=by show _=_;rw[List.take_length];rfl
 have FL:Hid (∀ i,(((zan S k).tail.take i).filter (fun p=>zbE S p q)).length<=24):=fun i=>by
  refine yx (List.length_filter_le _ _) ?_;rw[List.length_take,List.length_tail];omega
 have d7:(zaw S S.length k).length=(zan S k).tail.length+1:=by rw[List.length_tail];show (zan S k).length=_;omega
 clear hS hQ d2 hq hB wf hT b9 c7 g2 hC;rw[show zaw S S.length k=zan S k from rfl] at D1 d7;rw[d7] at D1;clear d7;generalize zcQ S k q=R at *;generalize hn:S.length=n at *;have HN:Hid _:=hn;clear hn;generalize hl:q.length=L at *;have HL:Hid _:=hl;clear hl;generalize g0:(zan S k).tail.length=U at *;have f0:Hid _:=g0;clear g0;obtain⟨i0,h8,i3,i4,i5⟩:=info_parts info3
 go_enter Tryz.func42,Tryz.ntmps42
 go_wp2_with fail
 refine(D1.out _ (HS.out.below (zav _ _ _))).mono ?_;rintro e w1 ⟨sa,cap,rfl,b8,f6,d9,e0⟩;simp only[yk] at b8;obtain⟨l0,l1,l2,l3,r0,r1⟩:=zkY b8;have j1:Hid _:=b8;have d6:Hid _:=l3;obtain⟨ob,oo,i2,c6⟩:=TL.out _ _ f6;subst i2;have e9:Hid (zaj w1 (some ⟨ob,oo+1,none⟩) (zan S k).tail):=c6;clear b8 l3 f6 c6
 go_wp2_with fail
 refine(D2.out _ (HQ.out.below d6.out)).mono ?_;rintro e w2 ⟨rfl,a9⟩;have hs2:=a9.size;have M:Hid (Below w.heap.size w w2):=d6.out.trans (a9.mono d6.out.size);have g4:Hid (zaj w2 (some ⟨ob,oo+1,none⟩) (zan S k).tail):=e9.out.below a9;have b4:=(a9.cell (ye _ _ l0)).trans l0;have b5:=ye _ _ b4;have c9:Hid (w.heap.size<w2.heap.size):=b5;clear a9 l0 l1 l2 r0 r1 e9;by_cases g7:cap=1
 ·subst g7;have f7:U=0:=by omega
  have f8:(zan S k).tail=[]:=List.length_eq_zero_iff.1 (by rw[f0.out];exact f7);have g5:Hid _:=f8;clear f8 d9 e0;have HT:Hid (zaj w2 (some ⟨ob,oo,none⟩) (zan S k).tail):=(show Hid _ by rw[g5.out];exact(fun i Z=>absurd Z (yr _)))
  go_wp2
  go_loopg [10,29] U (fun g1 s10 s29 wr=>∃ (j:Nat),j<=U/\U-j<=g1/\s29=.int .i64 j/\Hid (Below w2.heap.size w2 wr)/\wr.cell? ⟨w.heap.size,0,none⟩=some (.slice a n c)/\w.heap.size<wr.heap.size/\Hid (wr.ownsRow w2.heap.size 3 1 s10 (((zan S k).tail.take j).filter (fun p=>zbE S p q)).length ((((zan S k).tail.take j).filter (fun p=>zbE S p q)).map (Value.int .i64))))
  case atStart=>exact⟨0,by omega,by omega,rfl,yj _ _,b4,b5,World.ownsRow_nil _ _ _ _⟩
  case round =>
   obtain⟨j,hj,h7,rfl,HB,hc,h4,a5⟩:=hrel;clear b4 b5;obtain⟨pa,pc,V,I,O⟩:=zat a5.out;have HI:Hid _:=I
   have HK:Hid (∀ x:Addr,pa=some x->w.heap.size<=x.block):=fun x hx=>by
    have h1:=(O x.block (by rw[V,hx];rfl)).1;have h2:w.heap.size<w2.heap.size:=c9.out;omega
   clear I O;by_cases e7:j<U
   ·exact absurd e7 (by omega)
   ·have e6:j=U:=by omega
    subst e6
    have FR:Hid (R=((zan S k).tail.take j).filter (fun p=>zbE S p q)):=by
     show _=_;rw[FE.out]
    have T:=FL.out j;rw[<- FR.out] at V HI T;have c8:Hid (Below w.heap.size w wr):=M.out.trans (HB.out.mono M.out.size);rw[V];clear V;generalize a8:R.length=RL at T |-;have a6:Hid _:=a8;clear a8
    go_wp2
    go_ret2
    exact⟨pa,pc,by rw[a6.out];rfl,c8.out,HI.out,by rw[a6.out];exact T,HK.out⟩
 ·have g9:(1:Int)<=(cap:Int):=by omega
  have h3:¬ ((cap:Int)=1):=by omega
  have HT:Hid (zaj w2 (some ⟨ob,oo+1,none⟩) (zan S k).tail):=g4
  go_wp2
  go_loopg [10,29] U (fun g1 s10 s29 wr=>∃ (j:Nat),j<=U/\U-j<=g1/\s29=.int .i64 j/\Hid (Below w2.heap.size w2 wr)/\wr.cell? ⟨w.heap.size,0,none⟩=some (.slice a n c)/\w.heap.size<wr.heap.size/\Hid (wr.ownsRow w2.heap.size 3 1 s10 (((zan S k).tail.take j).filter (fun p=>zbE S p q)).length ((((zan S k).tail.take j).filter (fun p=>zbE S p q)).map (Value.int .i64))))
  case atStart=>exact⟨0,by omega,by omega,rfl,yj _ _,b4,b5,World.ownsRow_nil _ _ _ _⟩
  case round =>
   obtain⟨j,hj,h7,rfl,HB,hc,h4,a5⟩:=hrel;clear b4 b5;obtain⟨pa,pc,V,I,O⟩:=zat a5.out;have HI:Hid _:=I
   have HK:Hid (∀ x:Addr,pa=some x->w.heap.size<=x.block):=fun x hx=>by
    have h1:=(O x.block (by rw[V,hx];rfl)).1;have h2:w.heap.size<w2.heap.size:=c9.out;omega
   clear I O;by_cases e7:j<U
   ·have i8:(j:Int)<(U:Int):=by omega
    obtain⟨tb,j3,ee,tc⟩:=(HT.out.below HB.out) j (by rw[f0.out];exact e7);cases ee;obtain⟨p,hp,i1⟩:=e8.out j (by omega);have j2:=ye _ _ tc;have FJ:=FT.out j (by omega);rw[hp] at tc FJ;have D:Hid _:=D3.out p wr i1 (HS.out.below (M.out.trans (HB.out.mono M.out.size))) (HQ.out.below (M.out.trans (HB.out.mono M.out.size)));have b7:Hid _:=FJ;have j0:=FL.out j;clear FJ hp;generalize hA:((zan S k).tail.take j).filter (fun p=>zbE S p q)=A at *;have HA:Hid _:=hA;clear hA
    cases hso:zbE S p q with
    | false =>
     rw[hso] at D b7
     have F2:Hid (((zan S k).tail.take (j+1)).filter (fun p=>zbE S p q)=A):=by
      show _=_;rw[b7.out];simp
     clear hso V
     go_wp2_with fail
     refine yf D.out ?_;rintro e w3 ⟨rfl,F⟩;have d8:=(F.cell (ye _ _ hc)).trans hc;have a4:Hid (Below w2.heap.size w2 w3):=HB.out.trans (F.mono HB.out.size)
     have a7:Hid (w3.ownsRow w2.heap.size 3 1 u10 A.length (A.map (Value.int .i64))):=a5.out.kept (row:=none) ⟨F.os,F.tape,F.output,F.size,fun k hk _=>F.block k hk⟩ (by
      cases V:u10.ownBlock with
      | none=>exact Or.inl rfl
      | some k=>exact Or.inr (fun e=>by cases e))
     have i6:=F.size;clear F
     go_wp2
     go_roundg (U-(j+1))
     case measure=>omega
     case rel=>exact⟨j+1,by omega,by omega,by go_num,a4,d8,by omega,by rw[F2.out];exact a7⟩
    | true =>
     rw[hso] at D b7
     have F2:Hid (((zan S k).tail.take (j+1)).filter (fun p=>zbE S p q)=A++[(p:Int)]):=by
      show _=_;rw[b7.out];simp
     clear hso V
     go_wp2_with fail
     refine yf D.out ?_;rintro e w3 ⟨rfl,F⟩;have d8:=(F.cell (ye _ _ hc)).trans hc;have a4:Hid (Below w2.heap.size w2 w3):=HB.out.trans (F.mono HB.out.size)
     have a7:Hid (w3.ownsRow w2.heap.size 3 1 u10 A.length (A.map (Value.int .i64))):=a5.out.kept (row:=none) ⟨F.os,F.tape,F.output,F.size,fun k hk _=>F.block k hk⟩ (by
      cases V:u10.ownBlock with
      | none=>exact Or.inl rfl
      | some k=>exact Or.inr (fun e=>by cases e))
     have i6:=F.size;have i9:=HB.out.size;have i7:w.heap.size<w3.heap.size:=by omega
     clear F
     go_wp2_with (at_builtin;refine wpList_append_own _ rfl _ _ 29 rfl w2.heap.size 3 i0 (.int .i64 0) 1 8 Tryz.underlying29 h8 i3 i4 i5 rfl (by decide) _ _ _ rfl (a7.out.alloc _) ⟨w3.heap.size,0,none⟩ 1 1 [.int .i64 (p:Int)] rfl rfl ?c1 ?c2 ?c3 ?c4 ?c5 ?_)
     case c1 =>
      intro i u Z
      match i,Z with
      | 0,Z=>simp at Z;subst Z;simp[Addr.add]
     case c2=>intro u hu;simp at hu;subst hu;rfl
     case c3=>unfold maxLen;omega
     case c4=>omega
     case c5=>simp;omega
     intro v' w4 b6 J _;have g3:Hid (Below w2.heap.size w2 w4):=(a4.out.alloc a4.out.size _).grown J (by simp;have:=a4.out.size;omega) (fun k hk=>(a7.out.lt k hk).1)
     have g8:w4.cell? ⟨w.heap.size,0,none⟩=some (.slice a n c):=by
      have h1:=zcr d8 (.cells #[.int .i64 (p:Int)] 3);exact(yw (J.block _ (by simp;omega) (fun e=>by have h5:w2.heap.size<=w.heap.size:=(a7.out.lt _ e.symm).1;have h6:w.heap.size<w2.heap.size:=c9.out;omega))).trans h1
     have f9:w.heap.size<w4.heap.size:=by have:=J.size;simp at this;omega
     have g6:Hid (w4.ownsRow w2.heap.size 3 1 v' (A++[(p:Int)]).length ((A++[(p:Int)]).map (Value.int .i64))):=by
      show _;rw[List.length_append,List.map_append];exact b6
     clear b6 J
     go_wp2
     go_roundg (U-(j+1))
     case measure=>omega
     case rel=>exact⟨j+1,by omega,by omega,by go_num,g3,g8,f9,by rw[F2.out];exact g6⟩
   ·have e6:j=U:=by omega
    subst e6
    have FR:Hid (R=((zan S k).tail.take j).filter (fun p=>zbE S p q)):=by
     show _=_;rw[FE.out]
    have T:=FL.out j;rw[<- FR.out] at V HI T;have c8:Hid (Below w.heap.size w wr):=M.out.trans (HB.out.mono M.out.size);rw[V];clear V;generalize a8:R.length=RL at T |-;have a6:Hid _:=a8;clear a8
    go_wp2
    go_ret2
    exact⟨pa,pc,by rw[a6.out];rfl,c8.out,HI.out,by rw[a6.out];exact T,HK.out⟩
theorem zmD(a:Option Addr)(c:Nat)(S:List Nd)(p u E:Int)(qv:Value)(w:World)(U:S.length<=9223372036854775807)(I:zeu a c S)(M:zae w a S)(J:zar S [(p,u)]=E)(D:E≠0) :
  Calls Tryz.prog 42 #[.agg #[.slice a S.length c],.agg #[.int .i64 p,.int .i64 u],qv] w fun e w' => e=.returned (.tuple #[.slice none 0 0,.int .i64 E])/\Below w.heap.size w w' := by
 have O:Hid (∀ W,zae W a S->Calls _ _ _ _ _):=fun W V=>zqu a c S p u E W U I V J D;have T:Hid (zae w a S):=M;have hz:(E == 0)=false:=by simp[D]
 have Z:decide (E=0)=false:=decide_eq_false D;clear M I J;generalize S.length=n at *
 go_enter Tryz.func42,Tryz.ntmps42
 go_wp2_with fail
 refine yf (O.out _ (T.out.below (zav _ _ _))) ?_;rintro e w1 ⟨rfl,F⟩;have A:Hid (Below w.heap.size w w1):=(zav _ _ _).trans (F.mono (by first|(simp;done)|(simp;omega)));clear F
 go_wp2_with fail
 first
  |(go_ret;exact⟨rfl,A.out⟩)
  |(go_ret2;exact⟨rfl,A.out⟩)
  |(refine yq (v:=.tuple #[.slice none 0 0,.int .i64 E]) (by simp[results,Tryz.results42,go_sem]) rfl ⟨rfl,A.out⟩)
theorem zmC(a:Option Addr)(c:Nat)(S:List Nd)(k:Nat)(u E:Int)(M:Option Addr)(qc:Nat)(q:List Tst)(w:World)(wf:WF S)(hk:k<S.length)(U:zeu a c S)(hS:zae w a S)(hT:zar S [((k:Int),u)]=0)(T:q.length<=9223372036854775807)(Z:zaP w M q)(V:zcA q=E)(F:E≠0) :
  Calls Tryz.prog 42 #[.agg #[.slice a S.length c],.agg #[.int .i64 (k:Int),.int .i64 u],.slice M q.length qc] w fun e w' => e=.returned (.tuple #[.slice none 0 0,.int .i64 E])/\Below w.heap.size w w' := by
 have D1:Hid (∀ W,zae W a S->Calls _ _ _ _ _):=fun W O=>zjm a c S k u W wf U O hk hT;have d2:=fun W (O:zaP W M q)=>zjn M qc q W T O;rw[V] at d2;have D2:Hid _:=d2;have HS:Hid (zae w a S):=hS;have HQ:Hid (zaP w M q):=Z;have hz:(E == 0)=false:=by simp[F]
 have a4:decide (E=0)=false:=decide_eq_false F;clear hS U V Z d2 hT wf hk;generalize (zaw S S.length k).length=OL at *;generalize S.length=n at *;generalize q.length=L at *
 go_enter Tryz.func42,Tryz.ntmps42
 go_wp2_with fail
 refine yf (D1.out _ (HS.out.below (zav _ _ _))) ?_;rintro e w1 ⟨sa,cap,rfl,I,_⟩;have A:Hid (Below w.heap.size w w1):=(zav _ _ _).trans (I.mono (by first|(simp;done)|(simp;omega)));clear I
 go_wp2_with fail
 refine yf (D2.out _ (HQ.out.below A.out)) ?_;rintro e w2 ⟨rfl,J⟩;have D:Hid (Below w.heap.size w w2):=A.out.trans (J.mono A.out.size);clear J
 go_wp2_with fail
 first
  |(go_ret;exact⟨rfl,D.out⟩)
  |(go_ret2;exact⟨rfl,D.out⟩)
  |(refine yq (v:=.tuple #[.slice none 0 0,.int .i64 E]) (by simp[results,Tryz.results42,go_sem]) rfl ⟨rfl,D.out⟩)
abbrev zkK(f:Nat)(S T:List Nd)(more:Array Value)(h:Int × Int)(E:Int):Prop:=∀ (a:Option Addr) (c:Nat) W,zae W a S ->
 Calls Tryz.prog f (#[.agg #[.slice a S.length c]] ++ more) W fun e w' => ∃ w A,e=.returned (.tuple #[.agg #[.slice w T.length A],.agg #[.int .i64 h.1,.int .i64 h.2],.int .i64 E])/\Below W.heap.size W w' /\ ∀ w3:World,(∀ b,W.heap.size<=b->w3.heap[b]?=w'.heap[b]?)->zae w3 w T
def zpv(f:Nat):Prop:=∀ (S:List Nd) (t:Int),WF S->zkK f S (rS (zcH S t) (mkS S t)) #[.int .i64 t] (rH (zcH S t) (mkH S)) (zcH S t)
def zpu(f:Nat):Prop:=∀ (S:List Nd) (h:Int × Int) (b:Bool),WF S->zkK f S (rS (zkb S h.1 h.2) (zpV S h.1 b)) #[hdV h,.bool b] (rH (zkb S h.1 h.2) (mkH S)) (zkb S h.1 h.2)
theorem zpe(J:zbW):zpv 38:=fun S t wf a c W M=>by
 have U:∀ i,i<S.length->0<=(nd S i).n/\(nd S i).n<=1000000:=fun i O=>⟨(wf.uses O).1,(wf.uses O).2.1⟩;by_cases w:zcH S t=0
 ·obtain⟨_,T,Z,F,A⟩:=zfF w;rw[w,zdv];refine(zjl a c S t W (J.wf wf a c) M wf.small (zbi wf) ((zdy S).2 wf) T.1 T.2 (zdH S) Z F U A).mono (fun e w' ⟨g,cap,K,e1,D,V⟩=>⟨some ⟨g,0,none⟩,cap,?_,D,fun w3 I=>(V.other (fun b D _=>I b (by omega))).ndsAt (by simp)⟩);rw[e1];unfold mkS;rw[List.length_set];rfl
 ·rw[zcX w,zjj w];exact(zjk a c S t _ W (J.wf wf a c) M (fun _=>⟨wf.small,zbi wf,U⟩) rfl w).mono (fun e w' ⟨e1,D⟩=>⟨none,0,e1,D,fun w3 _=>zbL _⟩)
theorem zpb(D:zbW):zrh 39:=fun S h wf a c W F=>by
 obtain⟨P,U⟩:=h;dsimp only[hdV];have M:S.length<=9223372036854775807:=by have:=wf.small;omega
 unfold zgX;by_cases w:zas S P U=0
 ·rw[yd w];obtain⟨_,k,e,A,T,I⟩:=zbz w;subst e;rw[yg];by_cases hl:zdS S k
  ·rw[yd hl,zdv];refine zhw a c S _ k k U 0 W rfl (D.wf wf a c) F wf.small (zbi wf) A ((zaZ _ _ _).trans w) (fun _=>⟨?_,rfl⟩) (fun i J h=>?_)
   ·rw[<- I];rfl
   ·rw[(zhj wf A).2 hl i J] at h;cases h
  ·rw[ya hl,zcX (by decide)];exact zhw a c S [] k k U 6 W rfl (D.wf wf a c) F wf.small (zbi wf) A ((zaZ _ _ _).trans w) (fun h=>absurd ((zhj wf A).1 h) hl) (fun i J h=>⟨rfl,rfl⟩)
 ·rw[ya w,zcX w];exact(zmE a c S P U _ W M (D.wf wf a c) F (zaZ _ _ _) w).mono (fun e w' ⟨e1,O⟩=>⟨none,0,e1,O,zbL _⟩)
theorem zkz(F:zbW):znk 40:=fun S h wf a c W I=>by
 obtain⟨P,U⟩:=h;dsimp only[hdV];have T:S.length<=9223372036854775807:=by have:=wf.small;omega
 unfold zpr;by_cases w:zas S P U=0
 ·rw[yd w];obtain⟨_,k,e,J,hu,a4⟩:=zbz w;subst e;rw[yg];have V:zar S [((k:Int),U)]=0:=(zaZ _ _ _).trans w;rcases zlp wf J with Z |⟨p0,M,O,D⟩
  ·rw[yd Z,zcX (by decide)];exact(zoS a c S k U W T (F.wf wf a c) I V J Z).mono (fun e w' ⟨e1,A⟩=>⟨none,0,e1,A,zbL _⟩)
  ·have hG:leaveG S k=zbu S p0 k:=by unfold leaveG;rw[ya (by omega),D,yg]
   rw[ya (by omega),zdv,hG];refine(zrS a c S k p0 U W wf.small (F.wf wf a c) I (zbi wf) V J M O D).mono (fun e w' ⟨a', c', e1,A,hn⟩=>⟨a', c', ?_,A,hn⟩);rw[e1,zaR]
 ·rw[ya w,zcX w];exact(zqv a c S P U _ W T (F.wf wf a c) I (zaZ _ _ _) w).mono (fun e w' ⟨e1,A⟩=>⟨none,0,e1,A,zbL _⟩)
theorem zpc(F:zbW):zpu 45:=fun S h cl wf a c W O=>by
 obtain⟨P,U⟩:=h;dsimp only[hdV];have hN:S.length<=9223372036854775807:=by have:=wf.small;omega
 have hc:zaD S=0:=(zdy S).2 wf;have us:∀ i,i<S.length->0<=(nd S i).n/\(nd S i).n<=1000000:=fun i T=>⟨(wf.uses T).1,(wf.uses T).2.1⟩;unfold zkb;by_cases w:zas S P U=0
 ·rw[yd w];obtain⟨_,k,e,hk,hu,a8⟩:=zbz w;subst e;have h0:zar S [((k:Int),U)]=0:=(zaZ _ _ _).trans w;by_cases M:zdq S (k:Int)=true
  ·rw[yd M,zcX (by decide),zjj (by decide)]
   obtain⟨V,a7,a6⟩:∃ V,V<S.length/\(nd S V).h=(k:Int):=by
    refine Classical.byContradiction fun hn=>?_;have:zdq S (k:Int)=false:=zch.2 (fun i T e=>hn ⟨i,T,e⟩);rw[M] at this;cases this
   exact(zoM a c S (k:Int) U 6 cl W wf.small (F.wf wf a c) O h0 V a7 a6 rfl).mono (fun e w' ⟨e1,D⟩=>⟨none,0,e1,D,fun w3 _=>zbL _⟩)
  ·rw[ya M];have a4:zdq S (k:Int)=false:=by simpa using M
   have hh:=zch.1 a4;by_cases I:zcH S 0=0
   ·obtain⟨_,ht,hf,a5,J⟩:=zfF I;rw[I,zdv];unfold zpV;rw[yg];refine(zrR a c S k (k:Int) U cl W rfl wf.small (F.wf wf a c) O h0 hh (zdH S) hf (fun Z A=>zjl a c S 0 Z (F.wf wf a c) A wf.small (zbi wf) hc (by omega) (by omega) (zdH S) hf a5 us J)).mono (fun e w' ⟨a', c', e1,D,hn⟩=>⟨a', c', ?_,D,hn⟩);rw[e1,List.length_set];rfl
   ·rw[zcX I,zjj I];exact(zoN a c S (k:Int) U _ cl W wf.small (F.wf wf a c) O h0 hh (fun Z A=>zjk a c S 0 _ Z (F.wf wf a c) A (fun _=>⟨wf.small,zbi wf,us⟩) rfl I) I).mono (fun e w' ⟨e1,D⟩=>⟨none,0,e1,D,fun w3 _=>zbL _⟩)
 ·rw[ya w,zcX w,zjj w];exact(zoL a c S P U _ cl W hN (F.wf wf a c) O (zaZ _ _ _) w).mono (fun e w' ⟨e1,D⟩=>⟨none,0,e1,D,fun w3 _=>zbL _⟩)
theorem zqa{S:List Nd}{P I C D:Int}{hs:List (Int × Int)}(wf:WF S)(hm:hs.length<=1):zjI S (rS (zek S P I C D hs) (zgN S P C hs)) P C hs (zar S ((P,I) ::(C,D) :: hs)) (zek S P I C D hs):=by
 by_cases A:zar S ((P,I) ::(C,D) :: hs)=0
 ·obtain⟨_,hx⟩:=zkD A;obtain⟨J,e1,hpa,hpu,a8⟩:=hx (P,I) (by simp);obtain⟨ch,e2,hch,hcu,a5⟩:=hx (C,D) (by simp);dsimp only at e1 e2 a8 a5;subst e1;subst e2;have hK:=zbi wf;refine .inr ⟨J,ch,rfl,rfl,A,wf.small,hpa,hch,fun U=>?_,fun U=>⟨fun h hh=>?_,?_⟩⟩
  ·have e:zek S J I ch D hs=6:=by unfold zek;rw[yd A,yg,yg,ya (by rw[U];decide)]
   rw[e];exact⟨rfl,zcX (by decide)⟩
  ·obtain⟨q,e,hq,_⟩:=hx h (by simp[hh]);exact⟨q,e,hq⟩
  ·have pt:znj S J ch:=⟨wf,hpa,hch,hpu,hcu,U⟩;obtain⟨f1,f2,f3⟩:=zdp U;have hl:=zaF S ch;have M:=wf.leaveG hch;have V:=zlp wf hch;have b4:(nd (leaveG S ch) J).ks.length<=24:=M.kids_small (by rw[hl];exact hpa);unfold zek zgN;rw[yd A];simp only[yg];rw[yd U]
   match hs,hm,A,hx with
   | [],_,A,hx =>
    have a7:(-1:Int) ∉ (nd (leaveG S ch) J).ks:=fun h=>by
     obtain⟨k,e,_⟩:=M.kid (by rw[hl];exact hpa) h;omega
    refine⟨fun⟨h,hh,_⟩=>(by cases hh),fun _=>⟨rfl,hK,by rw[zdv,zaE,hl],.inr ⟨show (-1:Int)≠ch by omega,by show (-1:Int)<=-1;omega,f2,V,(nd (leaveG S ch) J).ks.length,?_,by omega,zdv⟩⟩⟩;show zgY (-1) ch _ ++ _=_;rw[zgv a7,zrG];rfl
   | [(Q,qu)],_,A,hx =>
    obtain⟨q,e3,hq,b5,a9⟩:=hx (Q,qu) (by simp);dsimp only at e3 a9;subst e3;dsimp only;rw[yg]
    have F:∀ h ∈ [((q:Int),qu)],(nd S h.1.toNat).p=(nd S q).p:=fun h hh=>by
     have:h=((q:Int),qu):=by simpa using hh
     subst this;rw[yg]
    by_cases w:(nd S q).p=J
    ·rw[yd w,zdv];refine⟨fun⟨h,hh,a6⟩=>absurd ((F h hh).trans w) a6,fun _=>?_⟩;by_cases Z:q=ch
     ·subst Z;rw[yd rfl];exact⟨rfl,hK,rfl,.inl ⟨rfl,rfl⟩⟩
     ·rw[ya (by omega)];obtain⟨at', a4,O,T⟩:=pt.ahead hq w Z;rw[a4,yg];refine⟨rfl,hK,by rw[zaE,hl],.inr ⟨show (q:Int)≠ch by omega,by show (-1:Int)<=(q:Int);omega,f2,V,at', ?_,by omega,rfl⟩⟩;show zgY (q:Int) ch _++(if (q:Int) = -1 then [(ch:Int)] else [])=_;rw[ya (by omega),List.append_nil];exact zoi (M.kids_nodup (by rw[hl];exact hpa)) O T
    ·rw[ya w];exact⟨fun _=>⟨rfl,zcX (by decide)⟩,fun h=>absurd ((F _ (List.mem_singleton.2 rfl)).symm.trans (h _ (List.mem_singleton.2 rfl))) w⟩
   | _ :: _ :: _,h,_,_=>exact absurd h (by simp)
 ·have e:zek S P I C D hs=zar S ((P,I) ::(C,D) :: hs):=by unfold zek;rw[ya A]
  exact .inl ⟨A,e,by rw[e,zcX A]⟩
theorem zgE(A:zbW):znh 44:=fun S h g hs I J wf w a c W F D =>
 zqt a c S h.1 g.1 h.2 g.2 I J hs _ _ _ W (by have:=wf.small;omega) (A.wf wf a c) F D w rfl (zqa wf w)
theorem zmI(D:zbW):zkG 42:=fun S h t m M O wf a c W F I=>by
 obtain⟨P,U⟩:=h;dsimp only[hdV];have Z:S.length<=9223372036854775807:=by have:=wf.small;omega
 unfold znz;by_cases w:zas S P U=0
 ·rw[yd w];obtain⟨_,k,e,J,hu,a4⟩:=zbz w;subst e;rw[yg];by_cases hq:zcA [⟨t,m,false⟩]=0
  ·rw[hq,yd rfl];exact(zoP a c S k U M O [⟨t,m,false⟩] W wf J hu ((zaZ _ _ _).trans w) F I hq (D.wf wf a c)).mono (fun e w' ⟨T,V,e1,A,hi,_⟩=>⟨T,V,_,e1,A,rfl⟩)
  ·rw[ya hq];exact(zmC a c S k U _ M O [⟨t,m,false⟩] W wf J (D.wf wf a c) F ((zaZ _ _ _).trans w) (by simp) I rfl hq).mono (fun e w' ⟨e1,A⟩=>⟨none,0,0,e1,A,rfl⟩)
 ·rw[ya w,ya w];exact(zmD a c S P U _ _ W Z (D.wf wf a c) F (zaZ _ _ _) w).mono (fun e w' ⟨e1,A⟩=>⟨none,0,0,e1,A,rfl⟩)
theorem zpa(F:zbW):zne 43:=fun S h wf a c W I=>by
 obtain⟨P,U⟩:=h;dsimp only[hdV];have J:S.length<=9223372036854775807:=by have:=wf.small;omega
 by_cases w:zas S P U=0
 ·obtain⟨_,k,e,M,hu,O⟩:=zbz w;subst e;rw[yg,w,yd rfl];refine(zqs a c S k U W wf (F.wf wf a c) I M ((zaZ _ _ _).trans w)).mono ?_;rintro e w' ⟨v,rfl,D,A⟩;obtain⟨T,V,rfl,Z⟩:=zcp A;exact⟨T,V,_,rfl,D,rfl⟩
 ·rw[ya w];exact(zoO a c S P U _ W J (F.wf wf a c) I (zaZ _ _ _) w).mono (fun e w' ⟨e1,D⟩=>⟨none,0,0,e1,D,rfl⟩)
end Go.Proofs.YtgjfmepbphfjoaaGreat
