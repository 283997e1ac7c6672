/-
  x
-/
import Derived.Test.YtcbcpomacdngmaaGreatQ14
namespace Go.Proofs.YtcbcpomacdngmaaGreat
set_option maxRecDepth 100000
set_option maxHeartbeats 4000000
set_option linter.unusedVariables false
open Go.RowKit
def zAv(te:Tst):Bool:=(decide (te.t = -1000001) || decide (0<=te.t/\te.t<=99)) && (decide (te.m = -1000001) || decide (-1000000<=te.m/\te.m<=1000000))
theorem znD(te:Tst)(w:World) :
  Calls Tryz.prog 210 #[.agg #[.int .i64 te.t,.int .i64 te.m,.bool te.near]] w fun e w' => e=.returned (.bool (zAv te))/\Below w.heap.size w w' := by
 obtain⟨T,M,near⟩:=te;unfold zAv;dsimp only;have d1:=zaQ T 0 99;have d2:=zaQ M (-1000000) 1000000;generalize decide (0<=T/\T<=99)=F at *;generalize decide (-1000000<=M/\M<=1000000)=E at *;by_cases h1:T = -1000001
 ·subst h1;simp only[decide_true,Bool.true_or,Bool.true_and];by_cases D:M = -1000001
  ·subst D;simp only[decide_true,Bool.true_or]
   go_enter Tryz.func210,Tryz.ntmps210
   go_wp2
   go_ret;exact⟨rfl,(yk _ _).alloc (yj _) _⟩
  ·have I:(M == -1000001)=false:=beq_eq_false_iff_ne.2 D;simp only[decide_eq_false D,Bool.false_or]
   cases E <;>
   ·go_enter Tryz.func210,Tryz.ntmps210
    go_wp2_with (go_at_call 66;refine(d2 _).mono ?_;rintro e w' ⟨rfl,rfl⟩)
    go_ret;exact⟨rfl,(yk _ _).alloc (yj _) _⟩
 ·have J:(T == -1000001)=false:=beq_eq_false_iff_ne.2 h1;simp only[decide_eq_false h1,Bool.false_or]
  cases F with
  | false =>
   simp only[Bool.false_and]
   go_enter Tryz.func210,Tryz.ntmps210
   go_wp2_with (go_at_call 66;refine(d1 _).mono ?_;rintro e w' ⟨rfl,rfl⟩)
   go_ret;exact⟨rfl,(yk _ _).alloc (yj _) _⟩
  | true =>
   simp only[Bool.true_and];by_cases D:M = -1000001
   ·subst D;simp only[decide_true,Bool.true_or]
    go_enter Tryz.func210,Tryz.ntmps210
    go_wp2_with (go_at_call 66;refine(d1 _).mono ?_;rintro e w' ⟨rfl,rfl⟩)
    go_ret;exact⟨rfl,(yk _ _).alloc (yj _) _⟩
   ·have I:(M == -1000001)=false:=beq_eq_false_iff_ne.2 D;simp only[decide_eq_false D,Bool.false_or]
    cases E <;>
    ·go_enter Tryz.func210,Tryz.ntmps210
     go_wp2_with (first|(go_at_call_of 66 (Value.int .i64 99);refine(d1 _).mono ?_;rintro e w' ⟨rfl,rfl⟩)|(go_at_call_of 66 (Value.int .i64 1000000);refine(d2 _).mono ?_;rintro e w' ⟨rfl,rfl⟩))
     go_ret;exact⟨rfl,(yk _ _).alloc (yj _) _⟩
def zeZ:Nat->List Tst->Int
 | _,[]=>0
 | k,te :: r=>if zAv te then (if decide (k=0) && te.near then 3 else zeZ (k+1) r) else 2
def zfB(q:List Tst):Int:=if decide (1<=(q.length:Int)/\(q.length:Int)<=6) then zeZ 0 q else 1
theorem zvC{q:List Tst}{k:Nat}(h:k<q.length):q.drop k=tst q k :: q.drop (k+1):=zmK h
theorem zla(qa:Option Addr)(qc:Nat)(q:List Tst)(w:World)(hq:q.length<=9223372036854775807)(hQ:zch w qa q) :
  Calls Tryz.prog 200 #[.slice qa q.length qc] w fun e w' => e=.returned (.int .i64 (zfB q))/\Below w.heap.size w w' := by
 have HQ:Hid (zch w qa q):=hQ;have d1:=zaQ (q.length:Int) 1 6;have DR:Hid (∀ k,k<q.length->zeZ k (q.drop k)=if zAv (tst q k) then (if decide (k=0) && (tst q k).near then 3 else zeZ (k+1) (q.drop (k+1))) else 2):=fun k hk=>by rw[zvC hk];rfl
 have DE:Hid (zeZ q.length (q.drop q.length)=0):=by show _=_;rw[List.drop_length];rfl
 unfold zfB;clear hQ;have H0:Hid (zeZ 0 q=zeZ 0 (q.drop 0)):=rfl;generalize zeZ 0 q=E at *;generalize hl:q.length=L at *;have HL:Hid _:=hl;clear hl
 cases F:decide (1<=(L:Int)/\(L:Int)<=6) with
 | false =>
  rw[F] at d1;simp only[Bool.false_eq_true,if_false];clear F
  go_enter Tryz.func200,Tryz.ntmps200
  go_wp2_with (go_at_call 66;refine(d1 _).mono ?_;rintro e w' ⟨rfl,I⟩;have O:=I.symm;clear I;subst O)
  go_ret;exact⟨rfl,yk _ _⟩
 | true =>
  rw[F] at d1;simp only[if_true];clear F
  go_enter Tryz.func200,Tryz.ntmps200
  go_wp2_with (go_at_call 66;refine(d1 _).mono ?_;rintro e w' ⟨rfl,I⟩;have O:=I.symm;clear I;subst O)
  go_loopg [11] L (fun g1 s11 wr=>∃ k:Nat,k<=L/\L-k<=g1/\s11=.int .i64 k/\Below w.heap.size w wr/\Hid (E=zeZ k (q.drop k)))
  case atStart=>exact⟨0,by omega,by omega,rfl,yk _ _,H0⟩
  case round =>
   obtain⟨k,hk,a7,rfl,F,T⟩:=hrel;by_cases a5:k<L
   ·have a6:(k:Int)<(L:Int):=by omega
    obtain⟨qb,qo,rfl,q0,q1,q2⟩:=(HQ.out.below F) k (by rw[HL.out];exact a5);have a9:=yd _ _ q0;have DK:=DR.out k (by omega);have d2:=fun W=>znD (tst q k) W;generalize tst q k=te at *;generalize zAv te=ok at *;obtain⟨tt,tm,tn⟩:=te;dsimp only at *;have M:Hid _:=DK;clear DK
    cases ok with
    | false =>
     have J:Hid (E=2):=by show _=_;rw[T.out,M.out];rfl
     go_wp2_with (go_at_call 210;refine(d2 _).mono ?_;rintro e Z ⟨rfl,D⟩)
     go_ret;exact⟨by rw[J.out];rfl,F.trans (((yk _ _).alloc (yj _) _ |>.trans (D.mono (by simp))).mono F.size)⟩
    | true =>
     by_cases U:k=0
     ·subst U;simp only[Nat.zero_mul,Nat.add_zero] at q0 q1 q2
      cases tn with
      | true =>
       have J:Hid (E=3):=by show _=_;rw[T.out,M.out];rfl
       go_wp2_with (go_at_call 210;refine(d2 _).mono ?_;rintro e Z ⟨rfl,D⟩;simp only[yr] at D;have c2:Z.cell? ⟨wr.heap.size,2,none⟩=some (.bool true):=(D.cell (by simp)).trans (by go_simp))
       go_ret;exact⟨by rw[J.out];rfl,F.trans (((yk _ _).alloc (yj _) _ |>.trans (D.mono (by omega))).mono F.size)⟩
      | false =>
       have J:Hid (E=zeZ (0+1) (q.drop (0+1))):=by show _=_;rw[T.out,M.out];rfl
       go_wp2_with (go_at_call 210;refine(d2 _).mono ?_;rintro e Z ⟨rfl,D⟩;simp only[yr] at D;have c2:Z.cell? ⟨wr.heap.size,2,none⟩=some (.bool false):=(D.cell (by simp)).trans (by go_simp))
       go_roundg (L-1)
       case measure=>omega
       case rel=>exact⟨0+1,by omega,by omega,by go_num,F.trans (((yk _ _).alloc (yj _) _ |>.trans (D.mono (by omega))).mono F.size),J⟩
     ·have a8:((k:Int) == 0)=false:=beq_eq_false_iff_ne.2 (by omega)
      have J:Hid (E=zeZ (k+1) (q.drop (k+1))):=by
       show _=_;rw[T.out,M.out,decide_eq_false U];rfl
      go_wp2_with (go_at_call 210;refine(d2 _).mono ?_;rintro e Z ⟨rfl,D⟩)
      go_roundg (L-(k+1))
      case measure=>omega
      case rel=>exact⟨k+1,by omega,by omega,by go_num,F.trans (((yk _ _).alloc (yj _) _ |>.trans (D.mono (by simp))).mono F.size),J⟩
   ·have:k=L:=by omega
    subst this;have J:Hid (E=0):=by show _=_;rw[T.out,<- HL.out];rw[<- HL.out] at DE;exact DE.out
    go_wp2
    go_ret;exact⟨by rw[J.out];rfl,F⟩
theorem zrB{q:List Tst}(h:zfB q=0):1<=q.length/\q.length<=6:=by
 unfold zfB at h
 split at h
 ·rename_i D;have:=of_decide_eq_true D;omega
 ·omega
theorem zvH{w D:World}{a:Option Addr}{n c:Nat}{p u:Int}(E:Below (w.heap.size+1+1) ((w.alloc (.cells #[.slice a n c] 43)).alloc (.cells #[.int .i64 p,.int .i64 u] 61)) D) :
  D.cell? ⟨w.heap.size,0,none⟩=some (.slice a n c)/\D.cell? ⟨w.heap.size+1,0,none⟩=some (.int .i64 p)/\D.cell? ⟨w.heap.size+1,1,none⟩=some (.int .i64 u)/\Below w.heap.size w D/\w.heap.size<D.heap.size/\w.heap.size+1<D.heap.size:=by
 refine⟨?_,?_,?_,(zbs _ _ _).trans (E.mono (by omega)),by have:=E.size;simp at this;omega,by have:=E.size;simp at this;omega⟩
 all_goals exact(E.cell (by first|(simp;done)|(simp;omega))).trans (by go_simp)
def zgY(S:List Nd)(k:Nat)(q:List Tst):List Int:=(zaN S k).tail.filter fun p=>zeF S p q
theorem zuB(a:Option Addr)(c:Nat)(S:List Nd)(p u E:Int)(qv:Value)(w:World)(Z:S.length<=9223372036854775807)(J:Big S)(O:zah w a S)(M:zba S [(p,u)]=E)(F:E≠0) :
  Calls Tryz.prog 189 #[.agg #[.slice a S.length c],.agg #[.int .i64 p,.int .i64 u],qv] w fun e w' => e=.returned (.tuple #[.slice none 0 0,.int .i64 E])/\Below w.heap.size w w' := by
 have T:Hid (∀ W,zah W a S->Calls _ _ _ _ _):=fun W hW=>zun a c S p u E W Z J hW M F;have U:Hid (zah w a S):=O;have hz:(E == 0)=false:=by simp[F]
 clear O J M;generalize S.length=n at *
 go_enter Tryz.func189,Tryz.ntmps189
 go_wp2_with fail
 refine(T.out _ (U.out.below (zbs _ _ _))).mono ?_;rintro e w1 ⟨rfl,D⟩;simp only[yr] at D;have I:Hid (Below w.heap.size w w1):=(zbs _ _ _).trans (D.mono (by omega));clear D
 go_wp2
 go_ret2
 exact⟨rfl,I.out⟩
theorem zuA(a:Option Addr)(c:Nat)(S:List Nd)(k:Nat)(u E:Int)(qa:Option Addr)(qc:Nat)(q:List Tst)(w:World)(wf:WF S)(T:k<S.length)(hT:zba S [((k:Int),u)]=0)(hS:zah w a S)(U:q.length<=9223372036854775807)(hQ:zch w qa q)(hE:zfB q=E)(M:E≠0) :
  Calls Tryz.prog 189 #[.agg #[.slice a S.length c],.agg #[.int .i64 (k:Int),.int .i64 u],.slice qa q.length qc] w fun e w' => e=.returned (.tuple #[.slice none 0 0,.int .i64 E])/\Below w.heap.size w w' := by
 have hN:=wf.small;have Z:=wf.big;have D1:Hid (∀ W,zah W a S->Calls _ _ _ _ _):=fun W O=>zlV a c S k S.length u W (by omega) Z O hT T (wf.deep_all T) (by have:=zfT wf T;omega);have d2:=fun W (O:zch W qa q)=>zla qa qc q W U O;rw[hE] at d2;have D2:Hid _:=d2;have HS:Hid (zah w a S):=hS;have HQ:Hid (zch w qa q):=hQ;have hz:(E == 0)=false:=by simp[M]
 clear hS hQ d2 hE Z wf hT;generalize (zaW S S.length k).length=OL at *;generalize S.length=n at *;generalize q.length=L at *
 go_enter Tryz.func189,Tryz.ntmps189
 go_wp2_with fail
 refine(D1.out _ (HS.out.below (zbs _ _ _))).mono ?_;rintro e w1 ⟨sa,cap,rfl,F,_⟩;simp only[yr] at F;have D:Hid (Below w.heap.size w w1):=(zbs _ _ _).trans (F.mono (by omega));clear F
 go_wp2_with fail
 refine(D2.out _ (HQ.out.below D.out)).mono ?_;rintro e w2 ⟨rfl,I⟩;have J:Hid (Below w.heap.size w w2):=D.out.trans (I.mono D.out.size);clear I
 go_wp2
 go_ret2
 exact⟨rfl,J.out⟩
theorem zoo(f:Int->Bool)(l:List Int)(k:Nat)(h:k<l.length):(l.take (k+1)).filter f=(l.take k).filter f++(if f (l.getD k 0) then [l.getD k 0] else []):=by
 rw[List.take_add_one,List.filter_append,List.getElem?_eq_getElem h,zae l 0 h];simp only[Option.toList,List.filter_cons,List.filter_nil]
theorem zwN(a:Option Addr)(c:Nat)(S:List Nd)(k:Nat)(u:Int)(qa:Option Addr)(qc:Nat)(q:List Tst)(w:World)(wf:WF S)(hk:k<S.length)(h4:(nd S k).u=true)(hT:zba S [((k:Int),u)]=0)(hS:zah w a S)(hQ:zch w qa q)(hq:zfB q=0) :
  Calls Tryz.prog 189 #[.agg #[.slice a S.length c],.agg #[.int .i64 (k:Int),.int .i64 u],.slice qa q.length qc] w fun e w' => ∃ fa fc,e=.returned (.tuple #[.slice fa (zgY S k q).length fc,.int .i64 0])/\Below w.heap.size w w' /\ zaj w' fa (zgY S k q)/\(zgY S k q).length<=24/\∀ x:Addr,fa=some x->w.heap.size<=x.block:=by
 have hN:=wf.small;have hB:=wf.big;have hlen:=zrB hq;have b6:=zrx wf hk h4;have D1:Hid (∀ W,zah W a S->Calls _ _ _ _ _):=fun W hW=>zlV a c S k S.length u W (by omega) hB hW hT hk (wf.deep_all hk) (by have:=zfT wf hk;omega);have d2:=fun W (hW:zch W qa q)=>zla qa qc q W (by omega) hW;rw[hq] at d2;have D2:Hid _:=d2;have D3:Hid (∀ (p:Nat) W,p<S.length->zah W a S->zch W qa q->Calls _ _ _ _ _):=fun p W hp h1 h2=>zwk a c S p qa qc q W wf hp h1 hlen.2 h2;have HS:Hid (zah w a S):=hS;have HQ:Hid (zch w qa q):=hQ
 have d8:Hid (∀ i,i<(zaN S k).tail.length->∃ p:Nat,(zaN S k).tail.getD i 0=p/\p<S.length):=fun i hi=>by
  rw[List.length_tail] at hi;obtain⟨p,e,hp,_⟩:=b6.each (i+1) (by omega);refine⟨p,?_,hp⟩;rw[<- e,zae _ _ (by rw[List.length_tail];omega),zae _ _ (by omega),List.getElem_tail]
 have b8:=b6.pos;have e6:=b6.small
 have TL:Hid (∀ W sa,zaj W sa (zaN S k)->∃ b o,sa=some ⟨b,o,none⟩/\zaj W (some ⟨b,o+1,none⟩) (zaN S k).tail):=fun W sa h=>by
  obtain⟨b,o,e,_⟩:=h 0 b8;refine⟨b,o,e,fun i hi=>⟨b,o+1,rfl,?_⟩⟩;rw[List.length_tail] at hi;obtain⟨b', o', e', hc⟩:=h (i+1) (by omega);rw[e] at e'
  cases e'
  rw[show o+1+i=o+(i+1) by omega,hc,zae _ _ (by omega),zae _ _ (by rw[List.length_tail];omega),List.getElem_tail]
 have FT:Hid (∀ i,i<(zaN S k).tail.length->((zaN S k).tail.take (i+1)).filter (fun p=>zeF S p q)=((zaN S k).tail.take i).filter (fun p=>zeF S p q)++(if zeF S ((zaN S k).tail.getD i 0) q then [(zaN S k).tail.getD i 0] else [])):=fun i hi=>zoo _ _ i hi;have FE:Hid (zgY S k q=((zaN S k).tail.take (zaN S k).tail.length).filter (fun p=>zeF S p q)):=by show _=_;rw[List.take_length];rfl
 have FL:Hid (∀ i,(((zaN S k).tail.take i).filter (fun p=>zeF S p q)).length<=24):=fun i=>by
  refine yE (List.length_filter_le _ _) ?_;rw[List.length_take,List.length_tail];omega
 have c8:(zaW S S.length k).length=(zaN S k).tail.length+1:=by rw[List.length_tail];show (zaN S k).length=_;omega
 clear hS hQ d2 hq hB wf hT b6 b8 e6;rw[show zaW S S.length k=zaN S k from rfl] at D1 c8;rw[c8] at D1;clear c8;generalize zgY S k q=R at *;generalize hn:S.length=n at *;have HN:Hid _:=hn;clear hn;generalize hl:q.length=L at *;have HL:Hid _:=hl;clear hl;generalize e5:(zaN S k).tail.length=U at *;have e0:Hid _:=e5;clear e5;obtain⟨i0,h3,h9,i1,i2⟩:=info_parts info3
 go_enter Tryz.func189,Tryz.ntmps189
 go_wp2_with fail
 refine(D1.out _ (HS.out.below (zbs _ _ _))).mono ?_;rintro e w1 ⟨sa,cap,rfl,b5,e1,d4,d5⟩;simp only[yr] at b5;obtain⟨l0,l1,l2,l3,r0,r1⟩:=zvH b5;have i8:Hid _:=b5;have c7:Hid _:=l3;obtain⟨ob,oo,h8,b7⟩:=TL.out _ _ e1;subst h8;have d9:Hid (zaj w1 (some ⟨ob,oo+1,none⟩) (zaN S k).tail):=b7;clear b5 l3 e1 b7
 go_wp2_with fail
 refine(D2.out _ (HQ.out.below c7.out)).mono ?_;rintro e F ⟨rfl,b0⟩;have i9:=b0.size;have M:Hid (Below w.heap.size w F):=c7.out.trans (b0.mono c7.out.size);have e8:Hid (zaj F (some ⟨ob,oo+1,none⟩) (zaN S k).tail):=d9.out.below b0;have b1:=(b0.cell (yd _ _ l0)).trans l0;have b2:=yd _ _ b1;have c6:Hid (w.heap.size<F.heap.size):=b2;clear b0 l0 l1 l2 r0 r1 d9;by_cases g4:cap=1
 ·subst g4;have e2:U=0:=by omega
  have e3:(zaN S k).tail=[]:=List.length_eq_zero_iff.1 (by rw[e0.out];exact e2);have e9:Hid _:=e3;clear e3 d4 d5;have HT:Hid (zaj F (some ⟨ob,oo,none⟩) (zaN S k).tail):=(show Hid _ by rw[e9.out];exact(fun i hi=>absurd hi (yw _)))
  go_wp2
  go_loopg [11,31] U (fun g1 s11 s31 wr=>∃ (j:Nat),j<=U/\U-j<=g1/\s31=.int .i64 j/\Hid (Below F.heap.size F wr)/\wr.cell? ⟨w.heap.size,0,none⟩=some (.slice a n c)/\w.heap.size<wr.heap.size/\Hid (wr.ownsRow F.heap.size 3 1 s11 (((zaN S k).tail.take j).filter (fun p=>zeF S p q)).length ((((zaN S k).tail.take j).filter (fun p=>zeF S p q)).map (Value.int .i64))))
  case atStart=>exact⟨0,by omega,by omega,rfl,yk _ _,b1,b2,World.ownsRow_nil _ _ _ _⟩
  case round =>
   obtain⟨j,hj,g9,rfl,HB,hc,g8,a6⟩:=hrel;clear b1 b2;obtain⟨pa,pc,Z,I,O⟩:=zeg a6.out;have HI:Hid _:=I
   have HK:Hid (∀ x:Addr,pa=some x->w.heap.size<=x.block):=fun x hx=>by
    have h1:=(O x.block (by rw[Z,hx];rfl)).1;have h2:w.heap.size<F.heap.size:=c6.out;omega
   clear I O;by_cases d7:j<U
   ·exact absurd d7 (by omega)
   ·have d6:j=U:=by omega
    subst d6
    have FR:Hid (R=((zaN S k).tail.take j).filter (fun p=>zeF S p q)):=by
     show _=_;rw[FE.out]
    have T:=FL.out j;rw[<- FR.out] at Z HI T;have b9:Hid (Below w.heap.size w wr):=M.out.trans (HB.out.mono M.out.size);rw[Z];clear Z;generalize a9:R.length=RL at T |-;have a7:Hid _:=a9;clear a9
    go_wp2
    go_ret2
    exact⟨pa,pc,by rw[a7.out];rfl,b9.out,HI.out,by rw[a7.out];exact T,HK.out⟩
 ·have g6:(1:Int)<=(cap:Int):=by omega
  have g7:¬ ((cap:Int)=1):=by omega
  have HT:Hid (zaj F (some ⟨ob,oo+1,none⟩) (zaN S k).tail):=e8
  go_wp2
  go_loopg [11,31] U (fun g1 s11 s31 wr=>∃ (j:Nat),j<=U/\U-j<=g1/\s31=.int .i64 j/\Hid (Below F.heap.size F wr)/\wr.cell? ⟨w.heap.size,0,none⟩=some (.slice a n c)/\w.heap.size<wr.heap.size/\Hid (wr.ownsRow F.heap.size 3 1 s11 (((zaN S k).tail.take j).filter (fun p=>zeF S p q)).length ((((zaN S k).tail.take j).filter (fun p=>zeF S p q)).map (Value.int .i64))))
  case atStart=>exact⟨0,by omega,by omega,rfl,yk _ _,b1,b2,World.ownsRow_nil _ _ _ _⟩
  case round =>
   obtain⟨j,hj,g9,rfl,HB,hc,g8,a6⟩:=hrel;clear b1 b2;obtain⟨pa,pc,Z,I,O⟩:=zeg a6.out;have HI:Hid _:=I
   have HK:Hid (∀ x:Addr,pa=some x->w.heap.size<=x.block):=fun x hx=>by
    have h1:=(O x.block (by rw[Z,hx];rfl)).1;have h2:w.heap.size<F.heap.size:=c6.out;omega
   clear I O;by_cases d7:j<U
   ·have i5:(j:Int)<(U:Int):=by omega
    obtain⟨tb,to,ee,tc⟩:=(HT.out.below HB.out) j (by rw[e0.out];exact d7);cases ee;obtain⟨p,hp,h7⟩:=d8.out j (by omega);have j0:=yd _ _ tc;have FJ:=FT.out j (by omega);rw[hp] at tc FJ;have D:Hid _:=D3.out p wr h7 (HS.out.below (M.out.trans (HB.out.mono M.out.size))) (HQ.out.below (M.out.trans (HB.out.mono M.out.size)));have b4:Hid _:=FJ;have i7:=FL.out j;clear FJ hp;generalize hA:((zaN S k).tail.take j).filter (fun p=>zeF S p q)=A at *;have HA:Hid _:=hA;clear hA
    cases hso:zeF S p q with
    | false =>
     rw[hso] at D b4
     have F2:Hid (((zaN S k).tail.take (j+1)).filter (fun p=>zeF S p q)=A):=by
      show _=_;rw[b4.out];simp
     clear hso Z
     go_wp2_with fail
     refine ye D.out ?_;rintro e w3 ⟨rfl,E⟩;have c9:=(E.cell (yd _ _ hc)).trans hc;have a5:Hid (Below F.heap.size F w3):=HB.out.trans (E.mono HB.out.size)
     have a8:Hid (w3.ownsRow F.heap.size 3 1 u11 A.length (A.map (Value.int .i64))):=a6.out.kept (row:=none) ⟨E.os,E.tape,E.output,E.size,fun k hk _=>E.block k hk⟩ (by
      cases Z:u11.ownBlock with
      | none=>exact Or.inl rfl
      | some k=>exact Or.inr (fun e=>by cases e))
     have i3:=E.size;clear E
     go_wp2
     go_roundg (U-(j+1))
     case measure=>omega
     case rel=>exact⟨j+1,by omega,by omega,by go_num,a5,c9,by omega,by rw[F2.out];exact a8⟩
    | true =>
     rw[hso] at D b4
     have F2:Hid (((zaN S k).tail.take (j+1)).filter (fun p=>zeF S p q)=A++[(p:Int)]):=by
      show _=_;rw[b4.out];simp
     clear hso Z
     go_wp2_with fail
     refine ye D.out ?_;rintro e w3 ⟨rfl,E⟩;have c9:=(E.cell (yd _ _ hc)).trans hc;have a5:Hid (Below F.heap.size F w3):=HB.out.trans (E.mono HB.out.size)
     have a8:Hid (w3.ownsRow F.heap.size 3 1 u11 A.length (A.map (Value.int .i64))):=a6.out.kept (row:=none) ⟨E.os,E.tape,E.output,E.size,fun k hk _=>E.block k hk⟩ (by
      cases Z:u11.ownBlock with
      | none=>exact Or.inl rfl
      | some k=>exact Or.inr (fun e=>by cases e))
     have i3:=E.size;have i6:=HB.out.size;have i4:w.heap.size<w3.heap.size:=by omega
     clear E
     go_wp2_with (at_builtin;refine wpList_append_own _ rfl _ _ 48 rfl F.heap.size 3 i0 (.int .i64 0) 1 8 Tryz.underlying48 h3 h9 i1 i2 rfl (by decide) _ _ _ rfl (a8.out.alloc _) ⟨w3.heap.size,0,none⟩ 1 1 [.int .i64 (p:Int)] rfl rfl ?c1 ?c2 ?c3 ?c4 ?c5 ?_)
     case c1 =>
      intro i u hi
      match i,hi with
      | 0,hi=>simp at hi;subst hi;simp[Addr.add]
     case c2=>intro u hu;simp at hu;subst hu;rfl
     case c3=>unfold maxLen;omega
     case c4=>omega
     case c5=>simp;omega
     intro v' w4 b3 J _;have e7:Hid (Below F.heap.size F w4):=(a5.out.alloc a5.out.size _).grown J (by simp;have:=a5.out.size;omega) (fun k hk=>(a8.out.lt k hk).1)
     have g5:w4.cell? ⟨w.heap.size,0,none⟩=some (.slice a n c):=by
      have h1:=zcN c9 (.cells #[.int .i64 (p:Int)] 3);exact(yB (J.block _ (by simp;omega) (fun e=>by have h5:F.heap.size<=w.heap.size:=(a8.out.lt _ e.symm).1;have h6:w.heap.size<F.heap.size:=c6.out;omega))).trans h1
     have e4:w.heap.size<w4.heap.size:=by have:=J.size;simp at this;omega
     have g0:Hid (w4.ownsRow F.heap.size 3 1 v' (A++[(p:Int)]).length ((A++[(p:Int)]).map (Value.int .i64))):=by
      show _;rw[List.length_append,List.map_append];exact b3
     clear b3 J
     go_wp2
     go_roundg (U-(j+1))
     case measure=>omega
     case rel=>exact⟨j+1,by omega,by omega,by go_num,e7,g5,e4,by rw[F2.out];exact g0⟩
   ·have d6:j=U:=by omega
    subst d6
    have FR:Hid (R=((zaN S k).tail.take j).filter (fun p=>zeF S p q)):=by
     show _=_;rw[FE.out]
    have T:=FL.out j;rw[<- FR.out] at Z HI T;have b9:Hid (Below w.heap.size w wr):=M.out.trans (HB.out.mono M.out.size);rw[Z];clear Z;generalize a9:R.length=RL at T |-;have a7:Hid _:=a9;clear a9
    go_wp2
    go_ret2
    exact⟨pa,pc,by rw[a7.out];rfl,b9.out,HI.out,by rw[a7.out];exact T,HK.out⟩
theorem zug{N:Nat}{l:List Nat}(h:l.Nodup)(hl:∀ y ∈ l,y<N):l.length<=N:=by
 have:=h.length_le_of_subset (l₂:=List.range N) (fun y D=>List.mem_range.2 (hl y D));simpa using this
structure Cl where
 n:Int
 ks:List Int
 deriving DecidableEq
def zxH:Cl:=⟨0,[]⟩
def cl(G:List Cl)(i:Nat):Cl:=G.getD i zxH
theorem zcq{G:List Cl}{i:Nat}(h:i<G.length):cl G i=G[i]:=zae G zxH h
theorem zzA{G H:List Cl}(hl:G.length=H.length)(h:∀ i,i<G.length->cl G i=cl H i):G=H:=by
 apply List.ext_getElem hl;intro i h1 D;have:=h i h1
 rwa [zcq h1,zcq D] at this
def zfa(m:Nat)(x:Cl):Int:=if x.n < -1000000\/1000000<x.n then 2 else if 8<x.ks.length then 1 else if x.ks.any (fun k=>!decide (0<=k/\k<=(m:Int)-1)) then 4 else 0
def cellsE(m:Nat):List Cl->Int
 | []=>0
 | x :: l=>if zfa m x=0 then cellsE m l else zfa m x
def bring(T:List Int)(k:Int):List Int:=if k ∈ T then T else T++[k]
def brings(T ks:List Int):List Int:=ks.foldl bring T
def bfs(G:List Cl):Nat->List Int
 | 0=>[0]
 | i+1=>if i<(bfs G i).length then brings (bfs G i) (cl G ((bfs G i).getD i 0).toNat).ks else bfs G i
def at1(T:List Int)(k:Int):Int:=(T.idxOf k:Int)
def zqB(G:List Cl)(T:List Int)(k:Int):Cl:=⟨(cl G k.toNat).n,(cl G k.toNat).ks.map (at1 T)⟩
def reach(G:List Cl):List Int:=bfs G G.length
def zbu(G:List Cl):List Cl:=if G.length=0 then [] else (reach G).map (zqB G (reach G))
def zdy(G:List Cl):Prop:=∀ i,i<G.length->∀ k ∈ (cl G i).ks,∃ q:Nat,k=q/\q<G.length
def ziV(m:Nat)(T:List Int):Prop:=T.Nodup/\∀ k ∈ T,∃ q:Nat,k=q/\q<m
theorem zmA(T:List Int)(k:Int):∃ r,bring T k=T++r:=by
 unfold bring;split
 ·exact⟨[],by simp⟩
 ·exact⟨[k],rfl⟩
theorem zkC:∀ (ks T:List Int),∃ r,brings T ks=T++r
 | [],T=>⟨[],by simp[brings]⟩
 | k :: ks,T=>by
  obtain⟨r1,h1⟩:=zmA T k;obtain⟨r2,D⟩:=zkC ks (bring T k);exact⟨r1++r2,by show brings (bring T k) ks=_;rw[D,h1,List.append_assoc]⟩
theorem zoe(T ks:List Int)(k:Int):brings T (ks++[k])=bring (brings T ks) k:=by simp[brings]
theorem zmz{m:Nat}{T:List Int}{k:Int}(h:ziV m T)(E:∃ q:Nat,k=q/\q<m):ziV m (bring T k):=by
 unfold bring;split
 ·exact h
 ·rename_i hn;refine⟨?_,fun x F=>?_⟩
  ·rw[List.nodup_append];exact⟨h.1,by simp,fun a ha b D e=>by simp at D;subst D;subst e;exact hn ha⟩
  ·rcases List.mem_append.1 F with h1|h1
   ·exact h.2 x h1
   ·simp at h1;subst h1;exact E
theorem zgP{m:Nat}:∀ (ks:List Int) {T:List Int},ziV m T->(∀ k ∈ ks,∃ q:Nat,k=q/\q<m)->ziV m (brings T ks)
 | [],_,h,_=>h
 | k :: ks,T,h,D=>zgP ks (zmz h (D k (by simp))) (fun x E=>D x (by simp[E]))
theorem zfH:∀ (ks:List Int) (T:List Int) (x:Int),x ∈ brings T ks↔x ∈ T\/x ∈ ks
 | [],T,x=>by simp[brings]
 | k :: ks,T,x=>by
  show x ∈ brings (bring T k) ks↔_;rw[zfH ks]
  have:x ∈ bring T k↔x ∈ T\/x=k:=by
   unfold bring;split
   ·rename_i h;exact⟨Or.inl,fun h1=>h1.elim id (fun e=>by rw[e];exact h)⟩
   ·simp
  rw[this];simp[or_assoc]
theorem znX{T r:List Int}{k:Int}(h:k ∈ T):at1 (T++r) k=at1 T k:=by
 unfold at1;rw[List.idxOf_append,yb h]
theorem zsv{T:List Int}{k:Int}(h:k ∉ T):at1 (T++[k]) k=T.length:=by
 unfold at1;rw[List.idxOf_append,ya h];simp
theorem zxV{T:List Int}{k:Int}(h:k ∈ T):(at1 T k).toNat<T.length/\T.getD (at1 T k).toNat 0=k:=by
 unfold at1;have h1:=List.idxOf_lt_length_of_mem h;rw[yi];exact⟨h1,by rw[zae _ _ h1];exact List.getElem_idxOf h1⟩
theorem zfU{m:Nat}{T:List Int}(h:ziV m T):T.length<=m:=by
 have h1:(T.map Int.toNat).Nodup:=by
  rw[List.nodup_iff_pairwise_ne,List.pairwise_map];refine(List.nodup_iff_pairwise_ne.1 h.1).imp_of_mem (fun {a b} ha F D e=>D ?_);obtain⟨q,M,_⟩:=h.2 a ha;obtain⟨Z,O,_⟩:=h.2 b F;omega
 have E:=zug (N:=m) h1 (fun y J=>by
  obtain⟨x,I,rfl⟩:=List.mem_map.1 J;obtain⟨q,e,U⟩:=h.2 x I
  omega)
 rwa [List.length_map] at E
theorem zsA(G:List Cl)(i:Nat):∃ r,bfs G (i+1)=bfs G i++r:=by
 rw[bfs];split
 ·exact zkC _ _
 ·exact⟨[],by simp⟩
theorem zps(G:List Cl)(i:Nat):∀ j,∃ r,bfs G (i+j)=bfs G i++r
 | 0=>⟨[],by simp⟩
 | j+1=>by
  obtain⟨r,h⟩:=zps G i j;obtain⟨E,D⟩:=zsA G (i+j);exact⟨r++E,by rw[show i+(j+1)=i+j+1 by omega,D,h,List.append_assoc]⟩
theorem zde{G:List Cl}(E:zdy G)(h0:0<G.length):∀ i,ziV G.length (bfs G i)
 | 0=>⟨by simp[bfs],fun k F=>⟨0,by simpa [bfs] using F,h0⟩⟩
 | i+1=>by
  have D:=zde E h0 i;rw[bfs];split
  ·rename_i hi;refine zgP _ D ?_;obtain⟨q,e,I⟩:=D.2 ((bfs G i).getD i 0) (by rw[zae _ _ hi];exact List.getElem_mem hi);rw[e,yi];exact E q I
  ·exact D
theorem ziI{G:List Cl}{i:Nat}(h:¬ i<(bfs G i).length):∀ j,bfs G (i+j)=bfs G i
 | 0=>rfl
 | j+1=>by
  have D:=ziI h j;rw[show i+(j+1)=i+j+1 by omega,bfs,D,ya (by omega)]
theorem zsy{G:List Cl}(E:zdy G)(h0:0<G.length){i:Nat}(h:¬ i<(bfs G i).length):bfs G i=reach G:=by
 unfold reach;rcases Nat.le_total i G.length with h1|h1
 ·have:=ziI h (G.length-i);rw[show i+(G.length-i)=G.length by omega] at this;exact this.symm
 ·have D:¬ G.length<(bfs G G.length).length:=by have:=zfU (zde E h0 G.length);omega
  have:=ziI D (i-G.length);rw[show G.length+(i-G.length)=i by omega] at this;exact this
theorem zio{G:List Cl}(D:zdy G)(h0:0<G.length):ziV G.length (reach G):=zde D h0 _
theorem zuE{G:List Cl}(D:zdy G)(h0:0<G.length):(reach G).length<=G.length:=zfU (zio D h0)
theorem zgO{G:List Cl}(E:zdy G)(h0:0<G.length)(i:Nat):∃ r,reach G=bfs G i++r:=by
 rcases Nat.le_total i G.length with h1|h1
 ·have:=zps G i (G.length-i);rw[show i+(G.length-i)=G.length by omega] at this;exact this
 ·have D:¬ G.length<(bfs G G.length).length:=by have:=zfU (zde E h0 G.length);omega
  have:=ziI D (i-G.length);rw[show G.length+(i-G.length)=i by omega] at this;exact⟨[],by rw[this];simp[reach]⟩
theorem zsB{G:List Cl}(D:zdy G)(h0:0<G.length)(i:Nat):(bfs G i).length<=G.length:=zfU (zde D h0 i)
theorem zrE{G:List Cl}(E:zdy G)(h0:0<G.length){i:Nat}(hi:i<(reach G).length){k:Int}(I:k ∈ (cl G ((reach G).getD i 0).toNat).ks):k ∈ reach G:=by
 obtain⟨r,J⟩:=zgO E h0 i;obtain⟨M,F⟩:=zgO E h0 (i+1)
 have D:i<(bfs G i).length:=by
  by_cases h:i<(bfs G i).length
  ·exact h
  ·have:=zsy E h0 h;rw[this] at h;exact absurd hi h
 have e:(reach G).getD i 0=(bfs G i).getD i 0:=by
  rw[J,zae _ _ (by simp;omega),zae _ _ D,List.getElem_append_left D]
 rw[F,bfs,yb D];refine List.mem_append_left _ ?_;rw[zfH];rw[e] at I;exact Or.inr I
theorem zfk{G:List Cl}(h0:0<G.length):(zbu G).length=(reach G).length:=by
 unfold zbu;rw[ya (by omega),List.length_map]
theorem zlC{G:List Cl}(h0:0<G.length){i:Nat}(hi:i<(reach G).length):cl (zbu G) i=zqB G (reach G) ((reach G).getD i 0):=by
 rw[zcq (by rw[zfk h0];exact hi),zae _ _ hi];unfold zbu;simp[show ¬ G.length=0 by omega]
theorem zhE{G:List Cl}(h0:G.length=0):zbu G=[]:=by unfold zbu;rw[yb h0]
theorem zqF{G:List Cl}(E:zdy G):zdy (zbu G):=by
 by_cases h0:G.length=0
 ·rw[zhE h0];intro i hi;cases hi
 ·have h0:0<G.length:=by omega
  intro i hi k D;rw[zfk h0] at hi |-;rw[zlC h0 hi] at D;obtain⟨x,F,rfl⟩:=List.mem_map.1 D;have:=zxV (zrE E h0 hi F);refine⟨(at1 (reach G) x).toNat,?_,this.1⟩;unfold at1;simp
end Go.Proofs.YtcbcpomacdngmaaGreat
