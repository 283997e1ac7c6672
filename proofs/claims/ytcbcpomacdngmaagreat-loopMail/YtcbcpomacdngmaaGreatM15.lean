/-
  x
-/
import Derived.Test.YtcbcpomacdngmaaGreatM14
namespace Go.Proofs.YtcbcpomacdngmaaGreat
set_option maxRecDepth 100000
set_option maxHeartbeats 4000000
set_option linter.unusedVariables false
open Go.RowKit
theorem zrh{q:List Tst}(h:zfw q=0):1<=q.length/\q.length<=6:=by
 unfold zfw at h
 split at h
 ·rename_i D;have:=of_decide_eq_true D;omega
 ·omega
theorem zvz{w w1:World}{a:Option Addr}{n c:Nat}{p u:Int}(D:Below (w.heap.size+1+1) ((w.alloc (.cells #[.slice a n c] 43)).alloc (.cells #[.int .i64 p,.int .i64 u] 61)) w1) :
  w1.cell? ⟨w.heap.size,0,none⟩=some (.slice a n c)/\w1.cell? ⟨w.heap.size+1,0,none⟩=some (.int .i64 p)/\w1.cell? ⟨w.heap.size+1,1,none⟩=some (.int .i64 u)/\Below w.heap.size w w1/\w.heap.size<w1.heap.size/\w.heap.size+1<w1.heap.size:=by
 refine⟨?_,?_,?_,(zdD _ _ _).trans (D.mono (by omega)),by have:=D.size;simp at this;omega,by have:=D.size;simp at this;omega⟩
 all_goals exact(D.cell (by first|(simp;done)|(simp;omega))).trans (by go_simp)
def zgR(S:List Nd)(k:Nat)(q:List Tst):List Int:=(zaQ S k).tail.filter fun p=>zeE S p q
theorem zuk(a:Option Addr)(c:Nat)(S:List Nd)(p u E:Int)(qv:Value)(w:World)(Z:S.length<=9223372036854775807)(J:Big S)(O:zah w a S)(M:zbd S [(p,u)]=E)(F:E≠0) :
  yL 189 #[.agg #[.slice a S.length c],.agg #[.int .i64 p,.int .i64 u],qv] w fun e w' => e=.returned (.tuple #[.slice none 0 0,.int .i64 E])/\Below w.heap.size w w' := by
 have T:Hid (∀ W,zah W a S->Calls _ _ _ _ _):=fun W hW=>ztR a c S p u E W Z J hW M F;have U:Hid (zah w a S):=O;have hz:(E == 0)=false:=by simp[F]
 clear O J M;generalize S.length=n at *
 go_enter Tryz.func189,Tryz.ntmps189
 go_wp2_with fail
 refine(T.out _ (U.out.below (zdD _ _ _))).mono ?_;rintro e w1 ⟨rfl,D⟩;simp only[yr] at D;have I:Hid (Below w.heap.size w w1):=(zdD _ _ _).trans (D.mono (by omega));clear D
 go_wp2
 go_ret2
 exact⟨rfl,I.out⟩
theorem zuj(a:Option Addr)(c:Nat)(S:List Nd)(k:Nat)(u E:Int)(qa:Option Addr)(qc:Nat)(q:List Tst)(w:World)(wf:WF S)(T:k<S.length)(hT:zbd S [((k:Int),u)]=0)(hS:zah w a S)(U:q.length<=9223372036854775807)(hQ:zci w qa q)(hE:zfw q=E)(M:E≠0) :
  yL 189 #[.agg #[.slice a S.length c],.agg #[.int .i64 (k:Int),.int .i64 u],.slice qa q.length qc] w fun e w' => e=.returned (.tuple #[.slice none 0 0,.int .i64 E])/\Below w.heap.size w w' := by
 have hN:=wf.small;have Z:=wf.big;have D1:Hid (∀ W,zah W a S->Calls _ _ _ _ _):=fun W O=>zlK a c S k S.length u W (by omega) Z O hT T (wf.deep_all T) (by have:=zfL wf T;omega);have d2:=fun W (O:zci W qa q)=>zkT qa qc q W U O;rw[hE] at d2;have D2:Hid _:=d2;have HS:Hid (zah w a S):=hS;have HQ:Hid (zci w qa q):=hQ;have hz:(E == 0)=false:=by simp[M]
 clear hS hQ d2 hE Z wf hT;generalize (zbi S S.length k).length=OL at *;generalize S.length=n at *;generalize q.length=L at *
 go_enter Tryz.func189,Tryz.ntmps189
 go_wp2_with fail
 refine(D1.out _ (HS.out.below (zdD _ _ _))).mono ?_;rintro e w1 ⟨sa,cap,rfl,F,_⟩;simp only[yr] at F;have D:Hid (Below w.heap.size w w1):=(zdD _ _ _).trans (F.mono (by omega));clear F
 go_wp2_with fail
 refine(D2.out _ (HQ.out.below D.out)).mono ?_;rintro e w2 ⟨rfl,I⟩;have J:Hid (Below w.heap.size w w2):=D.out.trans (I.mono D.out.size);clear I
 go_wp2
 go_ret2
 exact⟨rfl,J.out⟩
theorem znX(f:Int->Bool)(l:List Int)(k:Nat)(h:k<l.length):(l.take (k+1)).filter f=(l.take k).filter f++(if f (l.getD k 0) then [l.getD k 0] else []):=by
 rw[List.take_add_one,List.filter_append,List.getElem?_eq_getElem h,zae l 0 h];simp only[Option.toList,List.filter_cons,List.filter_nil]
theorem zwH(a:Option Addr)(c:Nat)(S:List Nd)(k:Nat)(u:Int)(qa:Option Addr)(qc:Nat)(q:List Tst)(w:World)(wf:WF S)(hk:k<S.length)(h4:(nd S k).u=true)(hT:zbd S [((k:Int),u)]=0)(hS:zah w a S)(hQ:zci w qa q)(hq:zfw q=0) :
  yL 189 #[.agg #[.slice a S.length c],.agg #[.int .i64 (k:Int),.int .i64 u],.slice qa q.length qc] w fun e w' => ∃ fa fc,e=.returned (.tuple #[.slice fa (zgR S k q).length fc,.int .i64 0])/\Below w.heap.size w w' /\ zal w' fa (zgR S k q)/\(zgR S k q).length<=24/\∀ x:Addr,fa=some x->w.heap.size<=x.block:=by
 have hN:=wf.small;have hB:=wf.big;have hlen:=zrh hq;have b6:=zre wf hk h4;have D1:Hid (∀ W,zah W a S->Calls _ _ _ _ _):=fun W hW=>zlK a c S k S.length u W (by omega) hB hW hT hk (wf.deep_all hk) (by have:=zfL wf hk;omega);have d2:=fun W (hW:zci W qa q)=>zkT qa qc q W (by omega) hW;rw[hq] at d2;have D2:Hid _:=d2;have D3:Hid (∀ (p:Nat) W,p<S.length->zah W a S->zci W qa q->Calls _ _ _ _ _):=fun p W hp h1 h2=>zwa a c S p qa qc q W wf hp h1 hlen.2 h2;have HS:Hid (zah w a S):=hS;have HQ:Hid (zci w qa q):=hQ
 have d8:Hid (∀ i,i<(zaQ S k).tail.length->∃ p:Nat,(zaQ S k).tail.getD i 0=p/\p<S.length):=fun i hi=>by
  rw[List.length_tail] at hi;obtain⟨p,e,hp,_⟩:=b6.each (i+1) (by omega);refine⟨p,?_,hp⟩;rw[<- e,zae _ _ (by rw[List.length_tail];omega),zae _ _ (by omega),List.getElem_tail]
 have b8:=b6.pos;have e6:=b6.small
 have TL:Hid (∀ W sa,zal W sa (zaQ S k)->∃ b o,sa=some ⟨b,o,none⟩/\zal W (some ⟨b,o+1,none⟩) (zaQ S k).tail):=fun W sa h=>by
  obtain⟨b,o,e,_⟩:=h 0 b8;refine⟨b,o,e,fun i hi=>⟨b,o+1,rfl,?_⟩⟩;rw[List.length_tail] at hi;obtain⟨b', o', e', hc⟩:=h (i+1) (by omega);rw[e] at e'
  cases e'
  rw[show o+1+i=o+(i+1) by omega,hc,zae _ _ (by omega),zae _ _ (by rw[List.length_tail];omega),List.getElem_tail]
 have FT:Hid (∀ i,i<(zaQ S k).tail.length->((zaQ S k).tail.take (i+1)).filter (fun p=>zeE S p q)=((zaQ S k).tail.take i).filter (fun p=>zeE S p q)++(if zeE S ((zaQ S k).tail.getD i 0) q then [(zaQ S k).tail.getD i 0] else [])):=fun i hi=>znX _ _ i hi;have FE:Hid (zgR S k q=((zaQ S k).tail.take (zaQ S k).tail.length).filter (fun p=>zeE S p q)):=by show _=_;rw[List.take_length];rfl
 have FL:Hid (∀ i,(((zaQ S k).tail.take i).filter (fun p=>zeE S p q)).length<=24):=fun i=>by
  refine yG (List.length_filter_le _ _) ?_;rw[List.length_take,List.length_tail];omega
 have c8:(zbi S S.length k).length=(zaQ S k).tail.length+1:=by rw[List.length_tail];show (zaQ S k).length=_;omega
 clear hS hQ d2 hq hB wf hT b6 b8 e6;rw[show zbi S S.length k=zaQ S k from rfl] at D1 c8;rw[c8] at D1;clear c8;generalize zgR S k q=R at *;generalize hn:S.length=n at *;have HN:Hid _:=hn;clear hn;generalize hl:q.length=L at *;have HL:Hid _:=hl;clear hl;generalize e5:(zaQ S k).tail.length=U at *;have e0:Hid _:=e5;clear e5;obtain⟨i0,h3,h9,i1,i2⟩:=info_parts info3
 go_enter Tryz.func189,Tryz.ntmps189
 go_wp2_with fail
 refine(D1.out _ (HS.out.below (zdD _ _ _))).mono ?_;rintro e w1 ⟨sa,cap,rfl,b5,e1,d4,d5⟩;simp only[yr] at b5;obtain⟨l0,l1,l2,l3,r0,r1⟩:=zvz b5;have i8:Hid _:=b5;have c7:Hid _:=l3;obtain⟨ob,oo,h8,b7⟩:=TL.out _ _ e1;subst h8;have d9:Hid (zal w1 (some ⟨ob,oo+1,none⟩) (zaQ S k).tail):=b7;clear b5 l3 e1 b7
 go_wp2_with fail
 refine(D2.out _ (HQ.out.below c7.out)).mono ?_;rintro e F ⟨rfl,b0⟩;have i9:=b0.size;have M:Hid (Below w.heap.size w F):=c7.out.trans (b0.mono c7.out.size);have e8:Hid (zal F (some ⟨ob,oo+1,none⟩) (zaQ S k).tail):=d9.out.below b0;have b1:=(b0.cell (yd _ _ l0)).trans l0;have b2:=yd _ _ b1;have c6:Hid (w.heap.size<F.heap.size):=b2;clear b0 l0 l1 l2 r0 r1 d9;by_cases g4:cap=1
 ·subst g4;have e2:U=0:=by omega
  have e3:(zaQ S k).tail=[]:=List.length_eq_zero_iff.1 (by rw[e0.out];exact e2);have e9:Hid _:=e3;clear e3 d4 d5;have HT:Hid (zal F (some ⟨ob,oo,none⟩) (zaQ S k).tail):=(show Hid _ by rw[e9.out];exact(fun i hi=>absurd hi (yw _)))
  go_wp2
  go_loopg [11,31] U (fun g1 s11 s31 wr=>∃ (j:Nat),j<=U/\U-j<=g1/\s31=.int .i64 j/\Hid (Below F.heap.size F wr)/\wr.cell? ⟨w.heap.size,0,none⟩=some (.slice a n c)/\w.heap.size<wr.heap.size/\Hid (wr.ownsRow F.heap.size 3 1 s11 (((zaQ S k).tail.take j).filter (fun p=>zeE S p q)).length ((((zaQ S k).tail.take j).filter (fun p=>zeE S p q)).map (Value.int .i64))))
  case atStart=>exact⟨0,by omega,by omega,rfl,yk _ _,b1,b2,World.ownsRow_nil _ _ _ _⟩
  case round =>
   obtain⟨j,hj,g9,rfl,HB,hc,g8,a6⟩:=hrel;clear b1 b2;obtain⟨pa,pc,Z,I,O⟩:=zeh a6.out;have HI:Hid _:=I
   have HK:Hid (∀ x:Addr,pa=some x->w.heap.size<=x.block):=fun x hx=>by
    have h1:=(O x.block (by rw[Z,hx];rfl)).1;have h2:w.heap.size<F.heap.size:=c6.out;omega
   clear I O;by_cases d7:j<U
   ·exact absurd d7 (by omega)
   ·have d6:j=U:=(by omega);subst d6
    have FR:Hid (R=((zaQ S k).tail.take j).filter (fun p=>zeE S p q)):=by
     show _=_;rw[FE.out]
    have T:=FL.out j;rw[<- FR.out] at Z HI T;have b9:Hid (Below w.heap.size w wr):=M.out.trans (HB.out.mono M.out.size);rw[Z];clear Z;generalize a9:R.length=RL at T |-;have a7:Hid _:=a9;clear a9
    go_wp2
    go_ret2
    exact⟨pa,pc,by rw[a7.out];rfl,b9.out,HI.out,by rw[a7.out];exact T,HK.out⟩
 ·have g6:(1:Int)<=(cap:Int):=by omega
  have g7:¬ ((cap:Int)=1):=by omega
  have HT:Hid (zal F (some ⟨ob,oo+1,none⟩) (zaQ S k).tail):=e8
  go_wp2
  go_loopg [11,31] U (fun g1 s11 s31 wr=>∃ (j:Nat),j<=U/\U-j<=g1/\s31=.int .i64 j/\Hid (Below F.heap.size F wr)/\wr.cell? ⟨w.heap.size,0,none⟩=some (.slice a n c)/\w.heap.size<wr.heap.size/\Hid (wr.ownsRow F.heap.size 3 1 s11 (((zaQ S k).tail.take j).filter (fun p=>zeE S p q)).length ((((zaQ S k).tail.take j).filter (fun p=>zeE S p q)).map (Value.int .i64))))
  case atStart=>exact⟨0,by omega,by omega,rfl,yk _ _,b1,b2,World.ownsRow_nil _ _ _ _⟩
  case round =>
   obtain⟨j,hj,g9,rfl,HB,hc,g8,a6⟩:=hrel;clear b1 b2;obtain⟨pa,pc,Z,I,O⟩:=zeh a6.out;have HI:Hid _:=I
   have HK:Hid (∀ x:Addr,pa=some x->w.heap.size<=x.block):=fun x hx=>by
    have h1:=(O x.block (by rw[Z,hx];rfl)).1;have h2:w.heap.size<F.heap.size:=c6.out;omega
   clear I O;by_cases d7:j<U
   ·have i5:(j:Int)<(U:Int):=(by omega);obtain⟨tb,j1,ee,tc⟩:=(HT.out.below HB.out) j (by rw[e0.out];exact d7);cases ee;obtain⟨p,hp,h7⟩:=d8.out j (by omega);have j0:=yd _ _ tc;have FJ:=FT.out j (by omega);rw[hp] at tc FJ;have D:Hid _:=D3.out p wr h7 (HS.out.below (M.out.trans (HB.out.mono M.out.size))) (HQ.out.below (M.out.trans (HB.out.mono M.out.size)));have b4:Hid _:=FJ;have i7:=FL.out j;clear FJ hp;generalize hA:((zaQ S k).tail.take j).filter (fun p=>zeE S p q)=A at *;have HA:Hid _:=hA;clear hA
    cases hso:zeE S p q with
    | false =>
     rw[hso] at D b4
     have F2:Hid (((zaQ S k).tail.take (j+1)).filter (fun p=>zeE S p q)=A):=by
      show _=_;rw[b4.out];simp
     clear hso Z
     go_wp2_with fail
     refine ye D.out ?_;rintro e w3 ⟨rfl,E⟩;have c9:=(E.cell (yd _ _ hc)).trans hc;have a5:Hid (Below F.heap.size F w3):=HB.out.trans (E.mono HB.out.size)
     have a8:Hid (w3.ownsRow F.heap.size 3 1 u11 A.length (A.map (Value.int .i64))):=a6.out.kept (row:=none) ⟨E.os,E.tape,E.output,E.size,fun k hk _=>E.block k hk⟩ (by
      cases Z:u11.ownBlock with
      | none=>exact Or.inl rfl
      | some k=>exact Or.inr (fun e=>by cases e))
     have i3:=E.size;clear E
     go_wp2
     go_roundg (U-(j+1))
     case measure=>omega
     case rel=>exact⟨j+1,by omega,by omega,by go_num,a5,c9,by omega,by rw[F2.out];exact a8⟩
    | true =>
     rw[hso] at D b4
     have F2:Hid (((zaQ S k).tail.take (j+1)).filter (fun p=>zeE S p q)=A++[(p:Int)]):=by
      show _=_;rw[b4.out];simp
     clear hso Z
     go_wp2_with fail
     refine ye D.out ?_;rintro e w3 ⟨rfl,E⟩;have c9:=(E.cell (yd _ _ hc)).trans hc;have a5:Hid (Below F.heap.size F w3):=HB.out.trans (E.mono HB.out.size)
     have a8:Hid (w3.ownsRow F.heap.size 3 1 u11 A.length (A.map (Value.int .i64))):=a6.out.kept (row:=none) ⟨E.os,E.tape,E.output,E.size,fun k hk _=>E.block k hk⟩ (by
      cases Z:u11.ownBlock with
      | none=>exact Or.inl rfl
      | some k=>exact Or.inr (fun e=>by cases e))
     have i3:=E.size;have i6:=HB.out.size;have i4:w.heap.size<w3.heap.size:=(by omega);clear E
     go_wp2_with (at_builtin;refine wpList_append_own _ rfl _ _ 48 rfl F.heap.size 3 i0 (.int .i64 0) 1 8 Tryz.underlying48 h3 h9 i1 i2 rfl (by decide) _ _ _ rfl (a8.out.alloc _) ⟨w3.heap.size,0,none⟩ 1 1 [.int .i64 (p:Int)] rfl rfl ?c1 ?c2 ?c3 ?c4 ?c5 ?_)
     case c1 =>
      intro i u hi
      match i,hi with
      | 0,hi=>simp at hi;subst hi;simp[Addr.add]
     case c2=>intro u hu;simp at hu;subst hu;rfl
     case c3=>unfold maxLen;omega
     case c4=>omega
     case c5=>simp;omega
     intro v' w4 b3 J _;have e7:Hid (Below F.heap.size F w4):=(a5.out.alloc a5.out.size _).grown J (by simp;have:=a5.out.size;omega) (fun k hk=>(a8.out.lt k hk).1)
     have g5:w4.cell? ⟨w.heap.size,0,none⟩=some (.slice a n c):=by
      have h1:=zcO c9 (.cells #[.int .i64 (p:Int)] 3);exact(yB (J.block _ (by simp;omega) (fun e=>by have h5:F.heap.size<=w.heap.size:=(a8.out.lt _ e.symm).1;have h6:w.heap.size<F.heap.size:=c6.out;omega))).trans h1
     have e4:w.heap.size<w4.heap.size:=by have:=J.size;simp at this;omega
     have g0:Hid (w4.ownsRow F.heap.size 3 1 v' (A++[(p:Int)]).length ((A++[(p:Int)]).map (Value.int .i64))):=by
      show _;rw[List.length_append,List.map_append];exact b3
     clear b3 J
     go_wp2
     go_roundg (U-(j+1))
     case measure=>omega
     case rel=>exact⟨j+1,by omega,by omega,by go_num,e7,g5,e4,by rw[F2.out];exact g0⟩
   ·have d6:j=U:=(by omega);subst d6
    have FR:Hid (R=((zaQ S k).tail.take j).filter (fun p=>zeE S p q)):=by
     show _=_;rw[FE.out]
    have T:=FL.out j;rw[<- FR.out] at Z HI T;have b9:Hid (Below w.heap.size w wr):=M.out.trans (HB.out.mono M.out.size);rw[Z];clear Z;generalize a9:R.length=RL at T |-;have a7:Hid _:=a9;clear a9
    go_wp2
    go_ret2
    exact⟨pa,pc,by rw[a7.out];rfl,b9.out,HI.out,by rw[a7.out];exact T,HK.out⟩
theorem WF.used_host{S:List Nd}(h:WF S){r:Nat}(E:r<S.length)(hh:(nd S r).h≠-1):(nd S r).u=true:=by
 have D:=(zbj (h.node r E)).2.2;unfold zec at D
 split at D
 ·rename_i F;exact F
 ·have:=of_decide_eq_true D;omega
theorem zrA{S:List Nd}{H:Nat}{P:List Int}{i:Nat}(hi:i<P.length){y:Nat}(D:P.getD i 0=y):zbu S H (P.take (i+1))=zdg S H (zbu S H (P.take i)) (y:Int):=by
 rw[List.take_succ_eq_append_getElem hi,zeL];rw[zae P 0 hi] at D;rw[D]
theorem zux{S:List Nd}{H:Nat}{P:List Int}(i:Nat)(F:P.length<=24):(zbu S H (P.take i)).length<=24:=by
 have h1:=zno S H (P.take i);have D:=List.length_take_le i P;have E:=List.length_take_le' i P;omega
theorem zry(a:Option Addr)(c:Nat)(S:List Nd)(H r:Nat)(w:World)(wf:WF S)(hB:Big S)(hH:H<S.length)(hr:r<S.length)(er:zbY S H=r)(hh:(nd S r).h=H)(hS:zah w a S) :
  yL 214 #[.agg #[.slice a S.length c],.int .i64 (H:Int)] w fun e w' => ∃ v K,e=.returned v/\Below w.heap.size w w' /\ zir w.heap.size (zbO S H) K v w' := by
 obtain⟨i0,e4,e7,e8,e9⟩:=info_parts zyn;have hN:=wf.small;have hu:=wf.used_host hr (by omega)
 have g8:Hid (zbO S H=zbu S H (zbi S S.length r)):=by
  show _=_;unfold zbO;rw[er,ya (by omega),yi]
 have d:=fun(W:World) (hW:zah W a S)=>zdo a c S (H:Int) W (by omega) hW;rw[er] at d;have D:Hid _:=d;have DO:Hid (∀ W,zah W a S->Calls _ _ _ _ _):=fun W hW=>zlK a c S r S.length (nd S r).n W (by omega) hB hW (zuE hr hu rfl wf) hr (wf.deep_all hr) (by have:=zfL wf hr;omega);have KM:Hid (∀ (mk:Int) W,zah W a S->Calls _ _ _ _ _):=fun mk W hW=>zqV a c S H mk W hH (by have:=wf.kids_small hH;omega) (fun y hy=>by obtain⟨k,e,F,_⟩:=wf.kid hH hy;exact⟨k,e,F⟩) hW;have HS:Hid (zah w a S):=hS
 have TT:Hid (∀ y,y<S.length->0<=(nd S y).t/\(nd S y).t<=99):=fun y hy=>by
  have h1:=(zbj (wf.node y hy)).1;unfold zcT at h1;simp at h1;omega
 have PL:Hid (∀ y ∈ zbi S S.length r,∃ x:Nat,y=x/\x<S.length):=fun y hy=>by
  obtain⟨q,e,hq,_⟩:=zcQ wf hr (wf.deep_all hr) y hy;exact⟨q,e,hq⟩
 have d9:(zbi S S.length r).length<=24:=by have:=zfL wf hr;omega
 clear d hS hu er hB wf;generalize zbi S S.length r=P at *;obtain⟨m,hm⟩:∃ m,P.length=m:=⟨_,rfl⟩;have HM:Hid (P.length=m):=hm;rw[hm] at DO d9;obtain⟨n,hn⟩:∃ n,S.length=n:=⟨_,rfl⟩;have HN:Hid (S.length=n):=hn;rw[hn] at hN hH hr D DO KM TT PL |-;have i5:(H:Int)<(n:Int):=by omega
 have i7:(r:Int)<(n:Int):=by omega
 have i8:((r:Int) == -1)=false:=by simp
 have i9:decide ((r:Int) = -1)=false:=by simp
 clear hn hm
 go_enter Tryz.func214,Tryz.ntmps214
 go_wp2_with fail
 refine ye (D.out _ (HS.out.below ((yk _ _).alloc (yj _) _))) ?_;rintro e w1 ⟨rfl,e0⟩;have J:=e0;simp only[yr] at J;have i1:=J.size;simp only[yr] at i1;have l0:w1.cell? ⟨w.heap.size,0,none⟩=some (.slice a n c):=(J.cell (by simp)).trans (by go_simp);have b0:Hid (Below w.heap.size w w1):=((yk _ _).alloc (yj _) _).trans (J.mono (by omega));obtain⟨nb,no,ea,_,c1,_⟩:=(HS.out.below b0.out) r (by rw[HN.out];exact hr);subst ea;have q0:=yd _ _ l0;have q1:=yd _ _ c1;clear e0 J D;generalize (nd S r).n=U at *
 go_wp2_with fail
 go_region_held3 (fun g0=>g0.cell? ⟨w.heap.size,0,none⟩=some (.slice (some ⟨nb,no,none⟩) n c)/\g0.cell? ⟨nb,no+r*8+1,none⟩=some (.int .i64 U)) (go_keep) (first|(go_at_call 199;refine(ye (DO.out _ ?nd) ?_);(case nd=>exact HS.out.below b0.out.drew);rintro e E ⟨sa,cap,rfl,a6,hI,h4,h7⟩;have d6:Hid (Below w.heap.size w E):=b0.out.drew.trans (a6.mono b0.out.size);have l2:E.cell? ⟨w.heap.size,0,none⟩=some (.slice (some ⟨nb,no,none⟩) n c):=(a6.cell (by exact q0)).trans l0;have d1:E.cell? ⟨nb,no+r*8+1,none⟩=some (.int .i64 U):=(a6.cell (by exact q1)).trans c1;have s2:w.heap.size<E.heap.size:=yx q0 a6.size;have s3:nb<E.heap.size:=yx q1 a6.size;have HI:Hid (zal E sa P):=hI;clear a6 hI h4 h7))
 go_wp2_with fail
 go_loopg [8,33] m (fun g s8 s33 wr=>∃ (i:Nat) (K:Nat->Value),i<=m/\m-i<=g/\s33=.int .i64 i/\Hid (Below E.heap.size E wr)/\wr.cell? ⟨w.heap.size,0,none⟩=some (.slice (some ⟨nb,no,none⟩) n c)/\E.heap.size<=wr.heap.size/\Hid (zir E.heap.size (zbu S H (P.take i)) K s8 wr))
 case atStart=>exact⟨0,fun _=>.slice none 0 0,by omega,by omega,rfl,yk _ _,l2,yj _,(show zir E.heap.size (zbu S H []) _ _ E from ⟨World.ownsRow_nil _ _ _ _,fun i hi=>by cases hi⟩)⟩
 case round =>
  obtain⟨i,K,hi,hg,rfl,HB,cs,b5,HO⟩:=hrel;clear l2;have HF:Hid ((zbu S H (P.take i)).length<=24):=zux i (by rw[HM.out];exact d9);obtain⟨qa,qc,hv,d5⟩:=HO.out.slts;subst hv;have b2:Hid (Below w.heap.size w wr):=d6.out.trans (HB.out.mono d6.out.size);by_cases c9:i<m
  ·obtain⟨y,hy,e6⟩:=PL.out (P.getD i 0) (by rw[zae P 0 (by rw[HM.out];exact c9)];exact List.getElem_mem _);obtain⟨pb,po,ep,h9⟩:=(HI.out.below HB.out) i (by rw[HM.out];exact c9);subst ep;rw[hy] at h9;obtain⟨j1,j2,ea,_,_,c2,_⟩:=(HS.out.below b2.out) y (by rw[HN.out];exact e6);cases ea;have j0:(y:Int)<(n:Int):=(by omega);have i6:(i:Int)<(m:Int):=(by omega);have NX:Hid (zbu S H (P.take (i+1))=zdg S H (zbu S H (P.take i)) (y:Int)):=zrA (by rw[HM.out];exact c9) hy;have ht:=TT.out y e6;have HT:Hid (ztL S (y:Int)=(nd S y).t-90):=(by show _=_;unfold ztL;rw[yi]);clear hy;generalize (nd S y).t=T at *;obtain⟨Q,hQ⟩:∃ Q,T-90=Q:=⟨_,rfl⟩;have hw:IntKind.i64.wrap (T-90)=Q:=(by rw[hQ];have:=hQ;unfold IntKind.wrap;simp[IntKind.bits,IntKind.signed];omega);have g7:Hid (zfS wr qa (zbu S H (P.take i))):=d5;clear d5;generalize zbu S H (P.take i)=L at *;have hF:=HF.out;have hc:=fun(W:World) (hW:zfS W qa L) (hq:W.cell? ⟨wr.heap.size,0,none⟩=some (.int .i64 Q))=>zqC qa qc L wr.heap.size Q W (by omega) hW hq;have a8:=fun(wp w3:World) (v1 v2:Value) (s:Slt) (o3:Obj)=>zir.step (wp:=wp) (w3:=w3) (v1:=v1) (v2:=v2) (s:=s) (o3:=o3) HO.out b5;obtain⟨ln,c8⟩:∃ z,L.length=z:=⟨_,rfl⟩;have g5:Hid (L.length=ln):=c8;rw[c8] at HO HF hc a8 hF |-;have HC:Hid _:=hc;have d8:Hid _:=a8;clear c8 hc a8;by_cases i4:Q<0
   ·have EQ:Hid (zbu S H (P.take (i+1))=L):=by
     show _=_;rw[NX.out];unfold zdg;rw[yb (by rw[HT.out];omega)]
    go_wp2_with fail
    go_roundg (m-(i+1))
    case measure=>omega
    case rel=>exact⟨i+1,K,by omega,by omega,by go_num,HB.out.trans ((zaa _ _).mono b5),zab cs (zaa _ _),by simp;omega,(show zir _ (zbu S H (P.take (i+1))) K (.slice qa ln qc) _ by rw[EQ.out];exact HO.out.below (zaa _ _))⟩
   ·have EQ:Hid (zbu S H (P.take (i+1))=L++[⟨(y:Int),Q,if L.any (fun s=>decide (s.num=Q)) then [] else zbX S H Q⟩]):=by
     show _=_;rw[NX.out];unfold zdg;rw[HT.out,hQ,ya (by omega)]
    clear NX HT
    have OM:Hid (∀ (W:World) (o3:Obj),(∀ k,k<wr.heap.size->W.heap[k]?=wr.heap[k]?)->wr.heap.size<=W.heap.size->(W.alloc o3).ownsRow E.heap.size 254 3 (.slice qa ln qc) ln (zim L K)):=fun W o3 h1 h2=>by
     have h3:=HO.out.1;rw[g5.out] at h3;exact zaJ h3 (fun k F=>(Below.heap_alloc _ _ _ (by have:=(h3.lt k F).2;omega)).trans (h1 k (h3.lt k F).2))
    have OB:Hid (∀ k,(Value.slice qa ln qc).ownBlock=some k->E.heap.size<=k):=fun k F=>(HO.out.1.lt k F).1
    go_wp2_with fail
    refine ye (HC.out _ (g7.out.below (zam _ _ _)) (zaM wr _ _ 0 _ rfl)) ?_;rintro e w3 ⟨rfl,I⟩;have n0:=zab (zaM wr #[.int .i64 Q] 3 0 (.cells #[.int .i64 (y:Int),.int .i64 Q,.slice none 0 0] 254) rfl) I;have n1:=zab (zaN wr #[.int .i64 (y:Int),.int .i64 Q,.slice none 0 0] 254 0 (.cells #[.int .i64 Q] 3) rfl) I;have n2:=zab (zaN wr #[.int .i64 (y:Int),.int .i64 Q,.slice none 0 0] 254 1 (.cells #[.int .i64 Q] 3) rfl) I;have n3:=zab (zaN wr #[.int .i64 (y:Int),.int .i64 Q,.slice none 0 0] 254 2 (.cells #[.int .i64 Q] 3) rfl) I;have nf:w3.frozen? ⟨wr.heap.size+1,2,none⟩=false:=(I.frozen (p:=⟨wr.heap.size+1,2,none⟩) (by simp)).trans (by go_simp);have i2:=I.size;simp only[yr] at i2;have a5:Hid (Below wr.heap.size wr w3):=(zam wr _ _).trans (I.mono (by simp;omega));have b3:=zab cs a5.out;have g4:Hid (Below E.heap.size E w3):=HB.out.trans (a5.out.mono b5);have z1:wr.heap.size<w3.heap.size:=(by omega);have z2:wr.heap.size+1<w3.heap.size:=(by omega);have z3:w.heap.size<w3.heap.size:=(by omega);clear I cs HC;generalize L.any (fun s=>decide (s.num=Q))=A at *
    cases A with
    | true =>
     go_wp2_with (at_builtin;refine wpList_append_own _ rfl _ _ 251 rfl E.heap.size 254 i0 _ 3 40 Tryz.underlying251 e4 e7 e8 e9 rfl (by decide) (.slice qa ln qc) ln (zim L K) rfl ?how ⟨w3.heap.size,0,none⟩ 1 1 (zgz ⟨(y:Int),Q,[]⟩ (.slice none 0 0)) rfl rfl ?c1 ?c2 ?c3 ?c4 ?c5 ?_)
     case how=>exact OM.out w3 _ (fun k F=>a5.out.block k F) (by omega)
     case c1=>exact ztG (by go_simp) (by go_simp) (by go_simp)
     case c2=>exact zxu
     case c3=>unfold maxLen;omega
     case c4=>omega
     case c5=>first|omega|(simp;omega)
     intro v2 w4 b6 O _
     have a7:Hid (zir E.heap.size (zbu S H (P.take (i+1))) (fun j=>if j=ln then .slice none 0 0 else K j) v2 w4):=by
      rw[EQ.out];exact d8.out w3 w4 (.slice none 0 0) v2 ⟨(y:Int),Q,[]⟩ _ (by omega) (fun k F=>a5.out.block k F) (World.ownsRow_nil _ _ _ _) O b6
     have c6:Below E.heap.size w3 w4:=((yk _ w3).alloc (by omega) _).grown O (by simp;omega) (fun k F=>OB.out k F);have b1:Hid (Below E.heap.size E w4):=g4.out.trans c6;have b4:=(c6.cell (p:=⟨w.heap.size,0,none⟩) (by show w.heap.size < _;omega)).trans b3;have e5:=b1.out.size;clear b6 O c6 b3 n0 n1 n2 n3 nf
     go_wp2_with fail
     go_roundg (m-(i+1))
     case measure=>omega
     case rel=>exact⟨i+1,_,by omega,by omega,by go_num,b1,b4,e5,a7⟩
    | false =>
     go_wp2_with fail
     refine ye (KM.out Q _ (HS.out.below (b2.out.trans (a5.out.mono b2.out.size)))) ?_;rintro e w4 ⟨v1,rfl,I,a9⟩;obtain⟨ga,gc,hv,_⟩:=zeh a9;subst hv;have e1:=zab n1 I;have e2:=zab n2 I;have e3:=zab n3 I;have ef:=(I.frozen (p:=⟨wr.heap.size+1,2,none⟩) (by exact z2)).trans nf;have b4:=zab b3 I;have e5:=I.size;have b9:Hid _:=a9;have b8:Hid (Below wr.heap.size wr w4):=a5.out.trans (I.mono (by omega));have b1:Hid (Below E.heap.size E w4):=HB.out.trans (b8.out.mono b5);have z4:wr.heap.size+1<w4.heap.size:=(by omega);have z5:w.heap.size<w4.heap.size:=(by omega);clear I a9 n0 n1 n2 n3 nf b3;obtain⟨M,hM⟩:∃ M,zbX S H Q=M:=⟨_,rfl⟩;rw[hM] at b9 EQ |-;obtain⟨mn,d4⟩:∃ z,M.length=z:=⟨_,rfl⟩;have g6:Hid (M.length=mn):=d4;rw[d4] at b9 |-;clear hM d4
     go_wp2_with (at_builtin;refine wpList_append_own _ rfl _ _ 251 rfl E.heap.size 254 i0 _ 3 40 Tryz.underlying251 e4 e7 e8 e9 rfl (by decide) (.slice qa ln qc) ln (zim L K) rfl ?how ⟨w4.heap.size,0,none⟩ 1 1 (zgz ⟨(y:Int),Q,M⟩ (.slice ga mn gc)) rfl rfl ?c1 ?c2 ?c3 ?c4 ?c5 ?_)
     case how=>exact OM.out _ _ (fun k F=>(ys _ _ _ _ (by show k≠wr.heap.size+1;omega)).trans (b8.out.block k F)) (by simp[World.setCell];omega)
     case c1=>exact ztG (by go_simp) (by go_simp) (by go_simp)
     case c2=>exact zxu
     case c3=>unfold maxLen;omega
     case c4=>omega
     case c5=>first|omega|(simp[World.setCell];omega)
     intro v2 w5 b7 Z _
     have a7:Hid (zir E.heap.size (zbu S H (P.take (i+1))) (fun j=>if j=ln then .slice ga mn gc else K j) v2 w5):=by
      rw[EQ.out];refine d8.out _ w5 (.slice ga mn gc) v2 ⟨(y:Int),Q,M⟩ _ (by simp[World.setCell];omega) (fun k F=>(ys _ _ _ _ (by show k≠wr.heap.size+1;omega)).trans (b8.out.block k F)) ?_ Z b7;have h6:w4.ownsRow w3.heap.size 3 1 (.slice ga mn gc) mn (M.map (Value.int .i64)):=b9.out;show World.ownsRow _ _ _ _ _ M.length _;rw[g6.out];exact zaJ (zaV h6 (by omega)) (fun k F=>ys _ _ _ _ (by have:=(h6.lt k F).1;show k≠wr.heap.size+1;omega))
     have c7:Below E.heap.size w4 w5:=(((yk _ w4).setCell (by show E.heap.size<=wr.heap.size+1;omega) _).alloc (by simp[World.setCell];omega) _).grown Z (by simp[World.setCell];omega) (fun k F=>OB.out k F);have d7:Hid (Below E.heap.size E w5):=b1.out.trans c7;have g9:=(c7.cell (p:=⟨w.heap.size,0,none⟩) (by show w.heap.size < _;omega)).trans b4;have i3:=d7.out.size;clear b7 Z c7 b4 e1 e2 e3 ef
     go_wp2_with fail
     go_roundg (m-(i+1))
     case measure=>omega
     case rel=>exact⟨i+1,_,by omega,by omega,by go_num,d7,g9,i3,a7⟩
  ·have h8:i=m:=(by omega);subst h8
   have a7:Hid (zir w.heap.size (zbO S H) K (.slice qa (zbu S H (P.take i)).length qc) wr):=by
    have h:=HO.out.base (B' := w.heap.size) (by omega);rw[g8.out];have e:P.take i=P:=List.take_of_length_le (by rw[HM.out];omega);rw[e] at h |-;exact h
   clear HO d5 HF;generalize (zbu S H (P.take i)).length=ln at *
   go_wp2
   go_ret;exact⟨_,K,rfl,b2.out,a7.out⟩
end Go.Proofs.YtcbcpomacdngmaaGreat
