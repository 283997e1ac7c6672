/-
  x
-/
import Derived.Test.YtcbcpomacdngmaaGreatQ23
import Derived.Deep.DeepCutAuto
namespace Go.Proofs.YtcbcpomacdngmaaGreat
set_option maxRecDepth 100000
set_option maxHeartbeats 4000000
set_option linter.unusedVariables false
open Go.RowKit Go.ChangeShapes Go.WideShapes
def zse(S T:List Nd)(P C I:Int)(hs:List (Int × Int))(E R:Int):Prop :=
 (E≠0/\R=E/\T=[]) \/
 ∃ pa D:Nat,P=pa/\C=D/\E=0/\S.length<=24/\pa<S.length/\D<S.length /\
  (zjf S D pa=false->R=6/\T=[]) /\
  (zjf S D pa=true->(∀ h ∈ hs,∃ q:Nat,h.1=q/\q<S.length) /\
   ((∃ h ∈ hs,(nd S h.1.toNat).p≠pa)->R=6/\T=[]) /\
   ((∀ h ∈ hs,(nd S h.1.toNat).p=pa)->R=0/\(∀ i,i<S.length->(nd S i).ks.length<=1000)/\T.length=S.length /\
    ((((D:Int),I) ∈ hs/\T=S) \/
    (((D:Int),I) ∉ hs/\pa≠D/\((nd S D).p = -1\/∃ F:Nat,F<S.length/\F≠D/\(nd S D).p=F) /\
     ∃ at' : Nat,atS (nd (leaveG S D) pa).ks hs=at' /\ at' <=(nd (leaveG S D) pa).ks.length/\T=zbj (leaveG S D) pa D at'))))
theorem zqX(a:Option Addr)(c:Nat)(S:List Nd)(P C I D:Int)(ha:Option Addr)(hc:Nat)(hs:List (Int × Int))(E R:Int)(T:List Nd)(w:World)(hN:S.length<=9223372036854775807)(hB:Big S)(hS:zah w a S)(hH:zas w ha hs)(hm:hs.length<=1)(hE:zba S ((P,I) ::(C,D) :: hs)=E)(hI:zse S T P C D hs E R) :
  Calls Tryz.prog 192 #[.agg #[.slice a S.length c],.agg #[.int .i64 P,.int .i64 I],.agg #[.int .i64 C,.int .i64 D],.slice ha hs.length hc] w fun e w' => ∃ a' c', e=.returned (.tuple #[.agg #[.slice a' T.length c'],.int .i64 R])/\Below w.heap.size w w' /\ ∀ w3:World,(∀ b,w.heap.size<=b->w3.heap[b]?=w'.heap[b]?)->zah w3 a' T:=by
 have df:=fun(W:World) (b4:Option Addr) (g7:Nat) (hW:zah W a S) (n5:zas W b4 ((P,I) ::(C,D) :: hs))=>zdm a c S b4 g7 ((P,I) ::(C,D) :: hs) W hN hB hW (by simp;omega) n5;rw[hE] at df;have DF:Hid (∀ (W:World) (b4:Option Addr) (g7:Nat),zah W a S->zas W b4 ((P,I) ::(C,D) :: hs)->Calls Tryz.prog 185 #[.agg #[.slice a S.length c],.slice b4 (hs.length+2) g7] W fun e w' => e=.returned (.int .i64 E)/\Below W.heap.size W w'):=df;have HS:Hid (zah w a S):=hS;have HH:Hid (zas w ha hs):=hH;obtain⟨i0,n8,p1,p2,p3⟩:=info_parts zzY;clear hS hB df hE hH;obtain⟨m,g8⟩:∃ m,hs.length=m:=⟨_,rfl⟩;have HM:Hid (hs.length=m):=g8;rw[g8] at hm DF |-;have o6:¬ (1:Int)<(m:Int):=by omega
 have q2:decide ((1:Int)<(m:Int))=false:=decide_eq_false o6;obtain⟨n,hn⟩:∃ n,S.length=n:=⟨_,rfl⟩;have HN:Hid (S.length=n):=hn;clear g8;have HC:Hid (zse S T P C D hs E R):=hI;rw[hn] at hN DF |-;clear hn hI
 go_enter Tryz.func192,Tryz.ntmps192
 go_upto_region 3 with fail
 obtain⟨W4,d7⟩:∃ W4,W4=((((w.alloc (.cells #[.slice a n c] 43)).alloc (.cells #[.int .i64 P,.int .i64 I] 61)).alloc (.cells #[.int .i64 C,.int .i64 D] 61)).alloc (.cells #[.slice none 0 0] 43)):=⟨_,rfl⟩;rw[<- d7];have d8:Below (w.heap.size+1+1+1+1) ((((w.alloc (.cells #[.slice a n c] 43)).alloc (.cells #[.int .i64 P,.int .i64 I] 61)).alloc (.cells #[.int .i64 C,.int .i64 D] 61)).alloc (.cells #[.slice none 0 0] 43)) W4:=by rw[d7];exact yk _ _
 obtain⟨l0,l1,l2,l3,l4,l5,l6⟩:=zcr d8;have e6:W4.heap.size=w.heap.size+1+1+1+1:=by rw[d7];simp
 have d4:Hid (Below w.heap.size w W4):=(zaI _ _ _ _ _).trans (d8.mono (by omega));have d5:Hid (Below (w.heap.size+1+1+1+1) ((((w.alloc (.cells #[.slice a n c] 43)).alloc (.cells #[.int .i64 P,.int .i64 I] 61)).alloc (.cells #[.int .i64 C,.int .i64 D] 61)).alloc (.cells #[.slice none 0 0] 43)) W4):=d8;clear d7 d8
 go_cut [10] (fun s11 wx=>s11=.int .i64 E/\Hid (Below (w.heap.size+1+1+1+1) ((((w.alloc (.cells #[.slice a n c] 43)).alloc (.cells #[.int .i64 P,.int .i64 I] 61)).alloc (.cells #[.int .i64 C,.int .i64 D] 61)).alloc (.cells #[.slice none 0 0] 43)) wx))
 case first =>
  have q9:=World.new_ne W4 _ l0;have r0:=World.new_ne W4 _ l1;have r4:=World.new_ne W4 _ l2;have r5:=World.new_ne W4 _ l3;have r6:=World.new_ne W4 _ l4
  cases hs with
  | nil =>
   have e0:m=0:=HM.out.symm;subst e0
   cases ha with
   | none =>
    go_region_held3 (fun M=>M.cell? ⟨w.heap.size,0,none⟩=some (.slice a n c)/\M.cell? ⟨w.heap.size+1,0,none⟩=some (.int .i64 P)/\M.cell? ⟨w.heap.size+1,1,none⟩=some (.int .i64 I)/\M.cell? ⟨w.heap.size+1+1,0,none⟩=some (.int .i64 C)/\M.cell? ⟨w.heap.size+1+1,1,none⟩=some (.int .i64 D)) (go_keep) (first|(go_at_call 185;refine(DF.out _ _ 2 (HS.out.below (d4.out.alloc (by omega) _).drew) (zmU _ _ _ _ _ _ (by go_simp) (by go_simp) (by go_simp) (by go_simp))).mono ?_;rintro e w6 ⟨rfl,b5⟩;have U:Below (w.heap.size+1+1+1+1) ((((w.alloc (.cells #[.slice a n c] 43)).alloc (.cells #[.int .i64 P,.int .i64 I] 61)).alloc (.cells #[.int .i64 C,.int .i64 D] 61)).alloc (.cells #[.slice none 0 0] 43)) w6:=(d5.out.alloc (by omega) _).drew.trans (b5.mono (by simp;omega));obtain⟨m0,m1,m2,m3,m4,m5,m6⟩:=zcr U;have H6:Hid (Below (w.heap.size+1+1+1+1) ((((w.alloc (.cells #[.slice a n c] 43)).alloc (.cells #[.int .i64 P,.int .i64 I] 61)).alloc (.cells #[.int .i64 C,.int .i64 D] 61)).alloc (.cells #[.slice none 0 0] 43)) w6):=U;clear b5 U))
    go_wp2_with fail
    go_meet
    case rel=>exact⟨rfl,H6⟩
   | some A0 =>
    go_region_held3 (fun M=>M.cell? ⟨w.heap.size,0,none⟩=some (.slice a n c)/\M.cell? ⟨w.heap.size+1,0,none⟩=some (.int .i64 P)/\M.cell? ⟨w.heap.size+1,1,none⟩=some (.int .i64 I)/\M.cell? ⟨w.heap.size+1+1,0,none⟩=some (.int .i64 C)/\M.cell? ⟨w.heap.size+1+1,1,none⟩=some (.int .i64 D)) (go_keep) (first|(go_at_call 185;refine(DF.out _ _ 2 (HS.out.below (d4.out.alloc (by omega) _).drew) (zmU _ _ _ _ _ _ (by go_simp) (by go_simp) (by go_simp) (by go_simp))).mono ?_;rintro e w6 ⟨rfl,b5⟩;have U:Below (w.heap.size+1+1+1+1) ((((w.alloc (.cells #[.slice a n c] 43)).alloc (.cells #[.int .i64 P,.int .i64 I] 61)).alloc (.cells #[.int .i64 C,.int .i64 D] 61)).alloc (.cells #[.slice none 0 0] 43)) w6:=(d5.out.alloc (by omega) _).drew.trans (b5.mono (by simp;omega));obtain⟨m0,m1,m2,m3,m4,m5,m6⟩:=zcr U;have H6:Hid (Below (w.heap.size+1+1+1+1) ((((w.alloc (.cells #[.slice a n c] 43)).alloc (.cells #[.int .i64 P,.int .i64 I] 61)).alloc (.cells #[.int .i64 C,.int .i64 D] 61)).alloc (.cells #[.slice none 0 0] 43)) w6):=U;clear b5 U))
    go_wp2_with fail
    go_meet
    case rel=>exact⟨rfl,H6⟩
  | cons h t =>
   have e0:t=[]/\m=1:=by
    have h1:=HM.out;rw[List.length_cons] at h1;exact⟨List.length_eq_zero_iff.1 (by omega),by omega⟩
   obtain⟨e0,e1⟩:=e0;subst e0;subst e1;obtain⟨Q,qu⟩:=h;obtain⟨a7,a8,eh,_,_⟩:=HH.out 0 (by simp);subst eh
   have HC:Hid (∀ W,zas W (some ⟨a7,a8,none⟩) [(Q,qu)]->W.cell? ⟨a7,a8,none⟩=some (.int .i64 Q)/\W.cell? ⟨a7,a8+1,none⟩=some (.int .i64 qu)):=fun W hW=>by
    obtain⟨b,o,e,h1,h2⟩:=hW 0 (by simp);cases e;exact⟨by simpa using h1,by simpa using h2⟩
   have e9:Hid (∀ b,some (⟨w.heap.size+1+1+1+1,0,none⟩:Addr)=some b->∀ j u,([.int .i64 P,.int .i64 I,.int .i64 C,.int .i64 D]:List Value)[j]?=some u->((W4.alloc (.cells #[.int .i64 P,.int .i64 I,.int .i64 C,.int .i64 D] 61)).drew).cell? (b.add j)=some u):=fun b hb j u hj=>by
    cases hb;rw[Addr.add_lit,<- e6]
    match j,hj with
    | 0,hj=>cases hj;go_simp
    | 1,hj=>cases hj;go_simp
    | 2,hj=>cases hj;go_simp
    | 3,hj=>cases hj;go_simp
   have j7:Hid (∀ j u,([.int .i64 Q,.int .i64 qu]:List Value)[j]?=some u->((W4.alloc (.cells #[.int .i64 P,.int .i64 I,.int .i64 C,.int .i64 D] 61)).drew).cell? ((⟨a7,a8,none⟩:Addr).add j)=some u):=fun j u hj=>by
    obtain⟨c0,c1⟩:=HC.out _ (HH.out.below (d4.out.alloc (by omega) (.cells #[.int .i64 P,.int .i64 I,.int .i64 C,.int .i64 D] 61)).drew);rw[Addr.add_lit]
    match j,hj with
    | 0,hj=>cases hj;exact c0
    | 1,hj=>cases hj;exact c1
   go_region_held3 (fun M=>M.cell? ⟨w.heap.size,0,none⟩=some (.slice a n c)/\M.cell? ⟨w.heap.size+1,0,none⟩=some (.int .i64 P)/\M.cell? ⟨w.heap.size+1,1,none⟩=some (.int .i64 I)/\M.cell? ⟨w.heap.size+1+1,0,none⟩=some (.int .i64 C)/\M.cell? ⟨w.heap.size+1+1,1,none⟩=some (.int .i64 D)) (go_keep) (first
    |(refine step_append_grows rfl (.tmp 21) (.tmp 22) 44 rfl 61 i0 (.agg #[.int .i64 0,.int .i64 0]) 2 16 Tryz.underlying44 n8 p1 p2 p3 rfl (by decide) (some ⟨w.heap.size+1+1+1+1,0,none⟩) 2 2 [.int .i64 P,.int .i64 I,.int .i64 C,.int .i64 D] rfl (fun h=>by cases h) rfl e9.out ⟨a7,a8,none⟩ 1 hc [.int .i64 Q,.int .i64 qu] rfl rfl j7.out (by intro u hu;simp at hu;rcases hu with rfl|rfl <;> rfl) (by decide) (by decide) (by decide) ?_;intro v5 w5 c7 b0;have U:Below (w.heap.size+1+1+1+1) ((((w.alloc (.cells #[.slice a n c] 43)).alloc (.cells #[.int .i64 P,.int .i64 I] 61)).alloc (.cells #[.int .i64 C,.int .i64 D] 61)).alloc (.cells #[.slice none 0 0] 43)) w5:=(d5.out.alloc (by omega) _).drew.grown b0 (by simp;omega) (fun k hk=>by cases hk);obtain⟨k0,k1,k2,k3,k4,k5,k6⟩:=zcr U;obtain⟨n7,p6,p0,l8⟩:=ztt c7;subst p0;have n2:Hid (zas w5 n7 [(P,I),(C,D),(Q,qu)]):=l8;have H5:Hid (Below (w.heap.size+1+1+1+1) ((((w.alloc (.cells #[.slice a n c] 43)).alloc (.cells #[.int .i64 P,.int .i64 I] 61)).alloc (.cells #[.int .i64 C,.int .i64 D] 61)).alloc (.cells #[.slice none 0 0] 43)) w5):=U;clear c7 b0 U l8)
    |(go_at_call 185;refine(DF.out _ _ _ (HS.out.below ((zaI _ _ _ _ _).trans (H5.out.mono (by omega)))) n2.out).mono ?_;rintro e w6 ⟨rfl,k8⟩;have m8:=H5.out.size;simp only[yr] at m8;have g4:Below (w.heap.size+1+1+1+1) ((((w.alloc (.cells #[.slice a n c] 43)).alloc (.cells #[.int .i64 P,.int .i64 I] 61)).alloc (.cells #[.int .i64 C,.int .i64 D] 61)).alloc (.cells #[.slice none 0 0] 43)) w6:=H5.out.trans (k8.mono m8);obtain⟨m0,m1,m2,m3,m4,m5,m6⟩:=zcr g4;have H6:Hid (Below (w.heap.size+1+1+1+1) ((((w.alloc (.cells #[.slice a n c] 43)).alloc (.cells #[.int .i64 P,.int .i64 I] 61)).alloc (.cells #[.int .i64 C,.int .i64 D] 61)).alloc (.cells #[.slice none 0 0] 43)) w6):=g4;clear k8 g4))
   go_wp2_with fail
   go_meet
   case rel=>exact⟨rfl,H6⟩
 case rest =>
 obtain⟨rfl,H6⟩:=hcut;clear l0 l1 l2 l3 l4 l5 l6 e6 d4 d5 DF;obtain⟨w6,rfl⟩:∃ W,W=wc:=⟨_,rfl⟩;obtain⟨m0,m1,m2,m3,m4,m5,m6⟩:=zcr H6.out;have n9:=HC.out;clear HC;rcases n9 with ⟨d6,hR,hT⟩ |⟨pa,O,rfl,rfl,d6,e3,hpa,hch,hX,hY⟩
 ·have hz:(E == 0)=false:=by simp[d6]
  have q8:decide (E=0)=false:=decide_eq_false d6;have HR:Hid _:=hR;have HT:Hid (T=[]):=hT;clear hR hT
  go_wp2_with fail
  refine yv (v:=.tuple #[.agg #[.slice none 0 0],.int .i64 E]) (by simp[results,Tryz.results192,go_sem,m5]) rfl ⟨none,⟨0,by rw[HR.out,HT.out];rfl⟩,?_,fun w3 _=>by rw[HT.out];exact fun _ hi=>absurd hi (yw _)⟩;exact((zaI _ _ _ _ _).trans (H6.out.mono (by omega))).setCell (by simp;omega) _
 ·subst d6;have hX:Hid _:=hX;have hY:Hid _:=hY;clear hN;have hN:=e3;have b2:Hid _:=fun(W:World) (hW:zah W a S)=>zlH a c S O pa W (by omega) hch hW;clear e3;rw[HN.out] at hN hpa hch b2;have J:Below w.heap.size w w6:=(zaI _ _ _ _ _).trans (H6.out.mono (by omega));by_cases hfit:zjf S O pa=false
  ·rw[hfit] at b2;obtain⟨rfl,rfl⟩:=hX.out hfit;clear hX hY
   go_wp2_with (go_at_call 205;refine(b2.out _ (HS.out.below J)).mono ?_;rintro e w7 ⟨rfl,a5⟩;have Z:=H6.out.size;simp only[yr] at Z;have b1:Below (w.heap.size+1+1+1+1) ((((w.alloc (.cells #[.slice a n c] 43)).alloc (.cells #[.int .i64 (pa:Int),.int .i64 I] 61)).alloc (.cells #[.int .i64 (O:Int),.int .i64 D] 61)).alloc (.cells #[.slice none 0 0] 43)) w7:=H6.out.trans (a5.mono Z);obtain⟨j0,j1,j2,j3,j4,j5,j6⟩:=zcr b1;have H7:Hid (Below (w.heap.size+1+1+1+1) ((((w.alloc (.cells #[.slice a n c] 43)).alloc (.cells #[.int .i64 (pa:Int),.int .i64 I] 61)).alloc (.cells #[.int .i64 (O:Int),.int .i64 D] 61)).alloc (.cells #[.slice none 0 0] 43)) w7):=b1;clear a5 b1 Z)
   refine yv (v:=.tuple #[.agg #[.slice none 0 0],.int .i64 6]) (by simp[results,Tryz.results192,go_sem,j5]) rfl ⟨none,0,rfl,?_,fun _ _ _ hi=>absurd hi (yw _)⟩;exact((zaI _ _ _ _ _).trans (H7.out.mono (by omega))).setCell (by simp;omega) _
  ·have hfit:zjf S O pa=true:=by simpa using hfit
   rw[hfit] at b2;obtain⟨hQ,hA,hK⟩:=hY.out hfit;have g0:Hid _:=hQ;have HA:Hid _:=hA;have e8:Hid _:=hK;rw[HN.out] at g0;clear hfit hQ hA hK hY hX
   go_wp2_with (go_at_call 205;refine(b2.out _ (HS.out.below J)).mono ?_;rintro e w7 ⟨rfl,a5⟩;have Z:=H6.out.size;simp only[yr] at Z;have b1:Below (w.heap.size+1+1+1+1) ((((w.alloc (.cells #[.slice a n c] 43)).alloc (.cells #[.int .i64 (pa:Int),.int .i64 I] 61)).alloc (.cells #[.int .i64 (O:Int),.int .i64 D] 61)).alloc (.cells #[.slice none 0 0] 43)) w7:=H6.out.trans (a5.mono Z);have H7:Hid (Below (w.heap.size+1+1+1+1) ((((w.alloc (.cells #[.slice a n c] 43)).alloc (.cells #[.int .i64 (pa:Int),.int .i64 I] 61)).alloc (.cells #[.int .i64 (O:Int),.int .i64 D] 61)).alloc (.cells #[.slice none 0 0] 43)) w7):=b1;clear a5 b1 Z)
   clear m0 m1 m2 m3 m4 m5 m6 J
   go_loopg [39] 1 (fun g1 s39 wr=>∃ k:Nat,k<=m/\m-k<=g1/\s39=.int .i64 k/\Hid (Below (w.heap.size+1+1+1+1) ((((w.alloc (.cells #[.slice a n c] 43)).alloc (.cells #[.int .i64 (pa:Int),.int .i64 I] 61)).alloc (.cells #[.int .i64 (O:Int),.int .i64 D] 61)).alloc (.cells #[.slice none 0 0] 43)) wr)/\Hid (0<k->∀ h ∈ hs,(nd S h.1.toNat).p=pa))
   case atStart=>exact⟨0,by omega,by omega,rfl,H7,(fun h=>absurd h (Nat.lt_irrefl _):0<0->∀ h ∈ hs,(nd S h.1.toNat).p=pa)⟩
   case round =>
    clear H7;obtain⟨k,hk,p7,rfl,H6,A⟩:=hrel;have J:Below w.heap.size w wr:=(zaI _ _ _ _ _).trans (H6.out.mono (by omega));have Z:=H6.out.size;simp only[yr] at Z;obtain⟨j0,j1,j2,j3,j4,j5,j6⟩:=zcr H6.out;by_cases q1:k<m
    ·have o5:m=1:=by omega
     have o0:k=0:=by omega
     subst o0;subst o5
     obtain⟨h,c9⟩:∃ h,hs=[h]:=by
      cases hs with
      | nil=>exact absurd HM.out (by simp)
      | cons x t =>
       have h1:=HM.out;rw[List.length_cons] at h1;have ht:t=[]:=List.length_eq_zero_iff.1 (by omega);exact⟨x,by rw[ht]⟩
     obtain⟨q,g9,o8⟩:=g0.out h (by rw[c9];simp);obtain⟨a7,a8,eh,b7,e2⟩:=(HH.out.below J) 0 (by rw[c9];simp);rw[c9] at b7 e2;simp only[List.getD_cons_zero] at b7 e2;rw[g9] at b7;subst eh;have x0:wr.cell? ⟨a7,a8,none⟩=some (.int .i64 (q:Int)):=by simpa using b7
     have x1:wr.cell? ⟨a7,a8+1,none⟩=some (.int .i64 h.2):=by simpa using e2
     obtain⟨b,o,ea,_,_,_,_,qp,_⟩:=(HS.out.below J) q (by rw[HN.out];exact o8);subst ea;clear b7 e2 A;have q3:(q:Int)<(n:Int):=by omega
     have d9:=yd _ _ qp;have q7:=yd _ _ x0;have J0:=zcN j0;have J1:=zcN j1;have J5:=zcN j5;have q0:=yd _ _ j5;by_cases c8:(nd S q).p=(pa:Int)
     ·have NX:Hid (0<(1:Nat)->∀ h ∈ hs,(nd S h.1.toNat).p=pa):=fun _ h' hh=>by
       rw[c9,List.mem_singleton] at hh;rw[hh,g9,yi];exact c8
      rw[c8] at qp;have QQ:=zcN qp;clear c8
      go_wp2_with fail
      go_quiet (fail)
      go_wp2_with fail
      go_roundg 0
      case measure=>omega
      case rel=>exact⟨1,by omega,by omega,by go_num,Below.drewNs (H6.out.alloc (by omega) _) _,NX⟩
     ·obtain⟨rfl,rfl⟩:=HA.out ⟨h,by rw[c9];simp,by rw[g9,yi];exact c8⟩;clear e8 HA;generalize (nd S q).p=pq at *;have q4:(pq ==(pa:Int))=false:=beq_eq_false_iff_ne.2 c8;have QQ:=zcN qp
      go_wp2_with fail
      go_quiet (fail)
      go_wp2_with fail
      refine yv (v:=.tuple #[.agg #[.slice none 0 0],.int .i64 6]) (by simp[results,Tryz.results192,go_sem,J5]) rfl ⟨none,0,rfl,?_,fun _ _ _ hi=>absurd hi (yw _)⟩;exact(Below.drewNs (J.alloc J.size _) _).setCell (by simp;omega) _
    ·have o2:k=m:=by omega
     have m7:∀ h ∈ hs,(nd S h.1.toNat).p=pa:=by
      cases hs with
      | nil=>exact fun _ hh=>by cases hh
      | cons x t =>
       have:=HM.out;rw[List.length_cons] at this;exact A.out (by omega)
     subst o2;obtain⟨rfl,j8,m9,hK⟩:=e8.out m7;have i9:Hid (T.length=n):=(m9.trans HN.out:T.length=n);have DC:Hid _:=fun(W:World) (hW:zah W a S)=>copy_any a c S W (by rw[HN.out];exact hN) j8 hW;have DH:Hid _:=fun(W:World) (hW:zas W ha hs)=>ziB ha hc hs (O:Int) D W (by rw[HM.out];omega) hW
     have OC:Hid (∀ (wr:World) (B g:Nat) (kb kc:Nat->Nat),Own wr B g S kb kc S.length->B<=g/\g<wr.heap.size/\(∀ b,zAL g S.length kb b->g<=b/\b<wr.heap.size)):=fun wr B g kb kc h=>by
      obtain⟨hB,F,hF,n6,hg,_⟩:=h;refine⟨hB,hF.lt,fun b hb=>?_⟩;rcases hb with rfl |⟨i,hi,rfl⟩
      ·exact⟨yj _,hF.lt⟩
      ·exact⟨Nat.le_of_lt (hg i hi),(n6 i hi).row⟩
     obtain⟨bb,d9⟩:∃ bb,decide (((O:Int),D) ∈ hs)=bb:=⟨_,rfl⟩;have h7:Hid _:=d9;rw[d9,HM.out] at DH;rw[HN.out] at DC OC;have h9:Hid _:=hK;clear A m7 e8 HA hK j8 m9 d9 g0
     go_wp2_with fail
     refine(DC.out _ (HS.out.below J)).mono ?_;rintro e w7 ⟨g,kb,kc,rfl,a5,g5⟩;obtain⟨p8,p9,l7⟩:=OC.out _ _ _ _ _ g5;have HX:Hid (∀ b,zAL g n kb b->g<=b/\b<w7.heap.size):=l7;clear l7;have q5:=a5.size;have H7:Hid (Below (w.heap.size+1+1+1+1) ((((w.alloc (.cells #[.slice a n c] 43)).alloc (.cells #[.int .i64 (pa:Int),.int .i64 I] 61)).alloc (.cells #[.int .i64 (O:Int),.int .i64 D] 61)).alloc (.cells #[.slice none 0 0] 43)) w7):=H6.out.trans (a5.mono Z);have n3:Hid (Own w7 wr.heap.size g S kb kc n):=g5;obtain⟨i0,i1,i2,i3,i4,i5,i6⟩:=zcr H7.out;have M7:Hid (∀ w8 o1,Below (w7.heap.size+1) (w7.alloc o1) w8->Below (w.heap.size+1+1+1+1) ((((w.alloc (.cells #[.slice a n c] 43)).alloc (.cells #[.int .i64 (pa:Int),.int .i64 I] 61)).alloc (.cells #[.int .i64 (O:Int),.int .i64 D] 61)).alloc (.cells #[.slice none 0 0] 43)) w8/\Below w7.heap.size w7 w8):=fun w8 o1 h=>⟨(H7.out.alloc (by omega) o1).trans (h.mono (by omega)),((yk _ _).alloc (yj _) o1).trans (h.mono (by omega))⟩;have I3:=zcN i3;have I4:=zcN i4;clear j0 j1 j2 j3 j4 j5 j6 a5 g5
     go_wp2_with fail
     refine(DH.out _ (HH.out.below (((zaI _ _ _ _ _).trans (H7.out.mono (by omega))).alloc (by omega) _))).mono ?_;rintro e w8 ⟨rfl,b6⟩;simp only[yr] at b6;have b8:w8.cell? ⟨w7.heap.size,0,none⟩=some (.slice (some ⟨g,0,none⟩) n n):=znC b6;obtain⟨H8,k9⟩:=M7.out _ _ b6;have o9:=b6.size;simp only[yr] at o9;have h8:Hid (Below (w.heap.size+1+1+1+1) ((((w.alloc (.cells #[.slice a n c] 43)).alloc (.cells #[.int .i64 (pa:Int),.int .i64 I] 61)).alloc (.cells #[.int .i64 (O:Int),.int .i64 D] 61)).alloc (.cells #[.slice none 0 0] 43)) w8):=H8;have i8:Hid (Own w8 wr.heap.size g S kb kc n):=Own.below n3.out k9;clear i0 i1 i2 i3 i4 i5 i6 b6 I3 I4;obtain⟨i0,i1,i2,i3,i4,i5,i6⟩:=zcr H8;clear H8;have o4:=h9.out;clear h9;rcases o4 with ⟨c6,hT⟩ |⟨c6,o7,l9,at', k7,e4,hT⟩
     ·have g6:bb=true:=h7.out.symm.trans (decide_eq_true c6);subst g6;have HT:Hid (T=S):=hT;clear c6 hT;have n1:Hid (Below w.heap.size w w8):=(zaI _ _ _ _ _).trans (h8.out.mono (by omega));have NS:Hid (∀ v (w3:World),(∀ b,g<=b->w3.heap[b]?=(w8.setCell ⟨w.heap.size+1+1+1,0,none⟩ v).heap[b]?)->zah w3 (some ⟨g,0,none⟩) S):=fun v w3 h4=>Own.up (kb:=kb) (kc:=kc) (B:=wr.heap.size) (by rw[HN.out];exact i8.out) _ (fun b hb=>(h4 b hb).trans (ys _ _ _ _ (by show b≠w.heap.size+1+1+1;omega)))
      go_wp2_with fail
      refine yv (v:=.tuple #[.agg #[.slice (some ⟨g,0,none⟩) n n],.int .i64 0]) (by simp[results,Tryz.results192,go_sem,i5]) rfl ⟨some ⟨g,0,none⟩,n,by rw[i9.out],n1.out.setCell (by simp;omega) _,fun w3 h3=>by rw[HT.out];exact NS.out _ w3 (fun b hb=>h3 b (by have:=J.size;omega))⟩
     ·have g6:bb=false:=h7.out.symm.trans (decide_eq_false c6);subst g6;have HT:Hid (T=zbj (leaveG S O) pa O at'):=hT;have DE:Hid _:=fun(B g c:Nat) (kb kc:Nat->Nat) (W:World) (hO:Own W B g (leaveG S O) kb kc (leaveG S O).length) (hW:zas W ha hs)=>zsY B g c (leaveG S O) kb kc pa O at' ha hc hs W hO (by rw[zbb,HN.out];exact hpa) (by rw[zbb,HN.out];exact hch) o7 (by rw[HM.out];exact hm) hW k7 e4;have DL:Hid _:=fun(B g c:Nat) (kb kc:Nat->Nat) (W:World) (hO:Own W B g S kb kc S.length)=>ztG B g c S kb kc O W hO (by rw[HN.out];exact hch) l9;simp only[zbb,HN.out,HM.out] at DE DL
      have OP:Hid (∀ g kb b,b=g\/b=kb pa->zAL g n kb b):=fun g kb b hb=>by
       rcases hb with hb|hb
       ·exact Or.inl hb
       ·exact Or.inr ⟨pa,hpa,hb⟩
      clear c6 hT l9 k7 e4
      go_wp2_with fail
      refine(DL.out _ g n kb kc _ i8.out).mono ?_;rintro e w9 ⟨rfl,a6,j9⟩;have q6:=a6.size;have b9:=(a6.cell (yd _ _ b8) (fun h=>by have:=HX.out _ h;simp at this)).trans b8;have H9:Below (w.heap.size+1+1+1+1) ((((w.alloc (.cells #[.slice a n c] 43)).alloc (.cells #[.int .i64 (pa:Int),.int .i64 I] 61)).alloc (.cells #[.int .i64 (O:Int),.int .i64 D] 61)).alloc (.cells #[.slice none 0 0] 43)) w9:=h8.out.trans (a6.below (by omega) (fun k hk=>by have:=HX.out _ hk;omega));have n4:Hid (Own w9 wr.heap.size g (leaveG S O) kb kc n):=j9;have e7:Hid (Below (w.heap.size+1+1+1+1) ((((w.alloc (.cells #[.slice a n c] 43)).alloc (.cells #[.int .i64 (pa:Int),.int .i64 I] 61)).alloc (.cells #[.int .i64 (O:Int),.int .i64 D] 61)).alloc (.cells #[.slice none 0 0] 43)) w9):=H9;clear i0 i1 i2 i3 i4 i5 i6 b8 a6 j9;obtain⟨i0,i1,i2,i3,i4,i5,i6⟩:=zcr H9;clear H9
      go_wp2_with fail
      refine(DE.out _ g n kb kc _ n4.out (HH.out.below ((zaI _ _ _ _ _).trans (e7.out.mono (by omega))))).mono ?_;rintro e n0 ⟨rfl,a9,e5⟩;have b3:∀ b,b=g\/b=kb pa->g<=b/\b<w7.heap.size:=fun b hb=>HX.out b (OP.out g kb b hb);have p5:=(a9.cell (yd _ _ b9) (fun h=>by have:=b3 _ h;simp at this)).trans b9;have p4:=(a9.cell (yd _ _ i5) (fun h=>by have:=b3 _ h;dsimp only at this;omega)).trans i5;have f10:=fun o=>(a9.frozen (p:=⟨w.heap.size+1+1+1,o,none⟩) (yd w9 ⟨w.heap.size+1+1+1,0,none⟩ i5) (fun h=>by have:=b3 _ h;dsimp only at this;omega)).trans (i6 o);have i7:Hid _:=e5;have h6:Hid (Below w.heap.size w n0):=((zaI _ _ _ _ _).trans (e7.out.mono (by omega))).trans (a9.below (by have:=e7.out.size;simp at this;omega) (fun k hk=>by have:=b3 _ hk;omega));have NS:Hid (∀ v (w3:World),(∀ b,g<=b->w3.heap[b]?=(n0.setCell ⟨w.heap.size+1+1+1,0,none⟩ v).heap[b]?)->zah w3 (some ⟨g,0,none⟩) (zbj (leaveG S O) pa O at')):=fun v w3 h4=>i7.out _ (fun b hb=>(h4 b hb).trans (ys _ _ _ _ (by show b≠w.heap.size+1+1+1;omega)));clear e5 a9 i0 i1 i2 i3 i4 i5 i6 b9 b3
      go_wp2_with fail
      refine yv (v:=.tuple #[.agg #[.slice (some ⟨g,0,none⟩) n n],.int .i64 0]) (by simp[results,Tryz.results192,go_sem,p4]) rfl ⟨some ⟨g,0,none⟩,n,by rw[i9.out],h6.out.setCell (by simp;omega) _,fun w3 h3=>by rw[HT.out];exact NS.out _ w3 (fun b hb=>h3 b (by have:=J.size;omega))⟩
def rS(E:Int)(T:List Nd):List Nd:=if E=0 then T else []
def rH(E:Int)(h:Int × Int):Int × Int:=if E=0 then h else (0,0)
theorem zhV{T:List Nd}:rS 0 T=T:=rfl
theorem zjJ{E:Int}{T:List Nd}(h:E≠0):rS E T=[]:=ya h
theorem zwP{E:Int}{T:Int × Int}(h:E≠0):rH E T=(0,0):=ya h
theorem zdB(W:World):zah W none []:=fun _ hi=>absurd hi (yw _)
abbrev znU(f:Nat)(S T:List Nd)(more:Array Value)(E:Int):Prop:=∀ (a:Option Addr) (c:Nat) W,zah W a S ->
 Calls Tryz.prog f (#[.agg #[.slice a S.length c]] ++ more) W fun e w' => ∃ D F,e=.returned (.tuple #[.agg #[.slice D T.length F],.int .i64 E])/\Below W.heap.size W w' /\ St (fun b=>b<W.heap.size) (fun V=>zah V D T) w'
theorem zyY{w' : World}{a:Option Addr}{T:List Nd}{B g:Nat}(hg:B<=g)(hn:∀ w3:World,(∀ b,g<=b->w3.heap[b]?=w'.heap[b]?)->zah w3 a T):St (fun b=>b<B) (fun V=>zah V a T) w' := fun V E=>by
 have e:∀ b,b<w'.heap.size->(V.heap.extract 0 w'.heap.size)[b]?=V.heap[b]?:=fun b F=>by
  have:=E.size;simp[Array.getElem?_extract];omega
 have h:=hn { V with heap:=V.heap.extract 0 w'.heap.size } (fun b F=>by
  show (V.heap.extract 0 w'.heap.size)[b]?=w'.heap[b]?;by_cases h1:b<w'.heap.size
  ·rw[e b h1];exact E.block b h1 (by show ¬ b<B;omega)
  ·rw[Array.getElem?_eq_none (by simp;omega),Array.getElem?_eq_none (by omega)])
 have D:(V.heap.extract 0 w'.heap.size).size=w'.heap.size:=by have:=E.size;simp;omega
 exact h.below ⟨rfl,rfl,rfl,by show (V.heap.extract 0 w'.heap.size).size<=_;rw[D];exact E.size,fun b F=>(e b (by rw[<- D];exact F)).symm⟩
abbrev hdV(h:Int × Int):Value:=.agg #[.int .i64 h.1,.int .i64 h.2]
def zvk(f:Nat):Prop:=∀ (S:List Nd) (h:Int × Int),WF S->znU f S (rS (zte S h.1 h.2) (S.set h.1.toNat (zcU (nd S h.1.toNat)))) #[hdV h] (zte S h.1 h.2)
def zqv(f:Nat):Prop:=∀ (S:List Nd) (h:Int × Int),WF S->znU f S (rS (zAo S h.1 h.2) (leaveG S h.1.toNat)) #[hdV h] (zAo S h.1 h.2)
def zqr(f:Nat):Prop:=∀ (S:List Nd) (h g:Int × Int) (hs:List (Int × Int)) (ha:Option Addr) (hc:Nat),WF S->hs.length<=1->∀ (a:Option Addr) (c:Nat) W,zah W a S->zas W ha hs ->
 Calls Tryz.prog f #[.agg #[.slice a S.length c],hdV h,hdV g,.slice ha hs.length hc] W fun e w' => ∃ D E,e=.returned (.tuple #[.agg #[.slice D (rS (zkd S h.1 h.2 g.1 g.2 hs) (zpH S h.1 g.1 hs)).length E],.int .i64 (zkd S h.1 h.2 g.1 g.2 hs)])/\Below W.heap.size W w' /\ St (fun b=>b<W.heap.size) (fun V=>zah V D (rS (zkd S h.1 h.2 g.1 g.2 hs) (zpH S h.1 g.1 hs))) w'
def zvj(f:Nat):Prop:=∀ (S:List Nd) (h:Int × Int) (t m:Int) (qa:Option Addr) (qc:Nat),WF S->∀ (a:Option Addr) (c:Nat) W,zah W a S->zch W qa [⟨t,m,false⟩] ->
 Calls Tryz.prog f #[.agg #[.slice a S.length c],hdV h,.slice qa 1 qc] W fun e w' => ∃ D E n,e=.returned (.tuple #[.slice D n E,.int .i64 (zyd S h.1 h.2 [⟨t,m,false⟩])])/\Below W.heap.size W w' /\ n=if zyd S h.1 h.2 [⟨t,m,false⟩]=0 then (zgY S h.1.toNat [⟨t,m,false⟩]).length else 0
def zxK(f:Nat):Prop:=∀ (S:List Nd) (h:Int × Int),WF S->∀ (a:Option Addr) (c:Nat) W,zah W a S ->
 Calls Tryz.prog f #[.agg #[.slice a S.length c],hdV h] W fun e w' => ∃ D E n,e=.returned (.tuple #[.slice D n E,.int .i64 (zaH S h.1 h.2)])/\Below W.heap.size W w' /\ n=if zaH S h.1 h.2=0 then (zjg S h.1.toNat).length else 0
theorem zfD(S:List Nd)(p u:Int):zba S [(p,u)]=zaH S p u:=by
 unfold zba zaH zfm zfm;by_cases h:zcY S p u=0
 ·simp[h]
 ·simp[h]
theorem zxE{S:List Nd}(wf:WF S){D:Nat}(hch:D<S.length):(nd S D).p = -1\/∃ E:Nat,E<S.length/\E≠D/\(nd S D).p=E:=by
 by_cases e:(nd S D).p = -1
 ·exact Or.inl e
 ·obtain⟨E,F,g1,g2,_⟩:=wf.parent_place hch e;exact Or.inr ⟨E,g1,g2,F⟩
theorem zdu{S:List Nd}(wf:WF S):∀ i,i<S.length->(nd S i).ks.length<=1000:=fun i hi=>by have:=wf.kids_small hi;omega
theorem zvL:zvk 167:=fun S h wf a c W I=>by
 obtain⟨P,U⟩:=h;dsimp only[hdV];have M:S.length<=9223372036854775807:=by have:=wf.small;omega
 unfold zte;by_cases D:zaH S P U=0
 ·rw[yb D];obtain⟨_,k,e,J,T,O⟩:=zcD D;subst e;rw[yi];by_cases hl:zgi S k
  ·rw[yb hl,zhV];refine(zys a c S k U W wf.small (zdu wf) I J D hl).mono (fun e w' ⟨g,E,F,hg,hn⟩=>⟨some ⟨g,0,none⟩,S.length,?_,F,zyY hg hn⟩);rw[E,List.length_set]
  ·rw[ya hl,zjJ (by decide)];exact(ztf a c S k U W M wf.big I J D (by have:=zdu wf k J;omega) hl).mono (fun e w' ⟨E,F⟩=>⟨none,0,E,F,fun V _=>zdB V⟩)
 ·rw[ya D,zjJ D];exact(zvM a c S P U _ W M wf.big I rfl D).mono (fun e w' ⟨E,F⟩=>⟨none,0,E,F,fun V _=>zdB V⟩)
theorem zrF:zqv 168:=fun S h wf a c W J=>by
 obtain⟨P,U⟩:=h;dsimp only[hdV];have Z:S.length<=9223372036854775807:=by have:=wf.small;omega
 unfold zAo;by_cases D:zaH S P U=0
 ·rw[yb D];obtain⟨_,k,e,M,hu,a5⟩:=zcD D;subst e;rw[yi];have hT:zba S [((k:Int),U)]=0:=(zfD _ _ _).trans D;rcases zxE wf M with hp |⟨p0,O,T,I⟩
  ·rw[yb hp,zjJ (by decide)];exact(zpe a c S k U W Z wf.big J hT M hp).mono (fun e w' ⟨E,F⟩=>⟨none,0,E,F,fun V _=>zdB V⟩)
  ·have hG:leaveG S k=zbD S p0 k:=by unfold leaveG;rw[ya (by omega),I,yi]
   rw[ya (by omega),zhV,hG];refine(zuH a c S k p0 U W wf.small wf.big J hT M O T I (zdu wf)).mono (fun e w' ⟨g,E,F,hg,hn⟩=>⟨some ⟨g,0,none⟩,S.length,?_,F,zyY hg hn⟩);rw[E,zbH]
 ·rw[ya D,zjJ D];exact(zrG a c S P U _ W Z wf.big J (zfD _ _ _) D).mono (fun e w' ⟨E,F⟩=>⟨none,0,E,F,fun V _=>zdB V⟩)
theorem zxi{S:List Nd}{P J C E:Int}{hs:List (Int × Int)}(wf:WF S)(hm:hs.length<=1):zse S (rS (zkd S P J C E hs) (zpH S P C hs)) P C E hs (zba S ((P,J) ::(C,E) :: hs)) (zkd S P J C E hs):=by
 by_cases F:zba S ((P,J) ::(C,E) :: hs)=0
 ·obtain⟨_,O⟩:=zuV F;obtain⟨pa,e1,hpa,hpu,a9⟩:=O (P,J) (by simp);obtain⟨T,e2,hch,hcu,a6⟩:=O (C,E) (by simp);dsimp only at e1 e2 a9 a6;subst e1;subst e2;have hK:=zdu wf;refine .inr ⟨pa,T,rfl,rfl,F,wf.small,hpa,hch,fun Z=>?_,fun Z=>⟨fun h hh=>?_,?_⟩⟩
  ·have e:zkd S pa J T E hs=6:=by unfold zkd;rw[yb F,yi,yi,ya (by rw[Z];decide)]
   rw[e];exact⟨rfl,zjJ (by decide)⟩
  ·obtain⟨q,e,hq,_⟩:=O h (by simp[hh]);exact⟨q,e,hq⟩
  ·have pt:zvh S pa T:=⟨wf,hpa,hch,hpu,hcu,Z⟩;obtain⟨f1,f2,f3⟩:=zfN Z;have hl:=zbb S T;have a5:=zxE wf hch;unfold zkd zpH;rw[yb F];simp only[yi];rw[yb Z]
   match hs,hm,F,O with
   | [],_,F,O =>
    exact⟨fun⟨h,hh,_⟩=>(by cases hh),fun _=>⟨rfl,hK,by rw[zhV,zbk,hl],.inr ⟨by simp,f2,a5,(nd (leaveG S T) pa).ks.length,rfl,by omega,zhV⟩⟩⟩
   | [(Q,qu)],_,F,O =>
    obtain⟨q,e3,hq,b3,b0⟩:=O (Q,qu) (by simp);dsimp only at e3 b0;subst e3;dsimp only;rw[yi]
    have I:∀ h ∈ [((q:Int),qu)],(nd S h.1.toNat).p=(nd S q).p:=fun h hh=>by
     have:h=((q:Int),qu):=by simpa using hh
     subst this;rw[yi]
    by_cases D:(nd S q).p=pa
    ·rw[yb D,zhV];refine⟨fun⟨h,hh,a8⟩=>absurd ((I h hh).trans D) a8,fun _=>?_⟩;by_cases M:q=T
     ·subst M;have a7:E=qu:=by omega
      subst a7;rw[yb rfl];exact⟨rfl,hK,rfl,.inl ⟨List.mem_singleton.2 rfl,rfl⟩⟩
     ·rw[ya (by omega)];obtain⟨at', U,b1,b2⟩:=pt.ahead hq D M;rw[U,yi];exact⟨rfl,hK,by rw[zbk,hl],.inr ⟨fun e=>M (by have:=congrArg Prod.fst (List.mem_singleton.1 e);simp at this;omega),f2,a5,at', U,by omega,rfl⟩⟩
    ·rw[ya D];exact⟨fun _=>⟨rfl,zjJ (by decide)⟩,fun h=>absurd ((I _ (List.mem_singleton.2 rfl)).symm.trans (h _ (List.mem_singleton.2 rfl))) D⟩
   | _ :: _ :: _,h,_,_=>exact absurd h (by simp)
 ·have e:zkd S P J C E hs=zba S ((P,J) ::(C,E) :: hs):=by unfold zkd;rw[ya F]
  exact .inl ⟨F,e,by rw[e,zjJ F]⟩
theorem zkQ:zqr 192:=fun S h g hs ha hc wf D a c W M J =>
 (zqX a c S h.1 g.1 h.2 g.2 ha hc hs _ _ _ W (by have:=wf.small;omega) wf.big M J D rfl (zxi wf D)).mono (fun e w' ⟨E,F,I,O,hn⟩=>⟨E,F,I,O,zyY (yj _) hn⟩)
theorem zsQ:zvj 189:=fun S h t m qa qc wf a c W J M=>by
 obtain⟨P,U⟩:=h;dsimp only[hdV];have Z:S.length<=9223372036854775807:=by have:=wf.small;omega
 unfold zyd;by_cases D:zaH S P U=0
 ·rw[yb D];obtain⟨_,k,e,O,hu,a5⟩:=zcD D;subst e;rw[yi];by_cases I:zfB [⟨t,m,false⟩]=0
  ·rw[I,yb rfl];exact(zwN a c S k U qa qc [⟨t,m,false⟩] W wf O hu ((zfD _ _ _).trans D) J M I).mono (fun e w' ⟨T,fc,E,F,hi,_⟩=>⟨T,fc,_,E,F,rfl⟩)
  ·rw[ya I];exact(zuA a c S k U _ qa qc [⟨t,m,false⟩] W wf O ((zfD _ _ _).trans D) J (by simp) M rfl I).mono (fun e w' ⟨E,F⟩=>⟨none,0,0,E,F,rfl⟩)
 ·rw[ya D,ya D];exact(zuB a c S P U _ _ W Z wf.big J (zfD _ _ _) D).mono (fun e w' ⟨E,F⟩=>⟨none,0,0,E,F,rfl⟩)
theorem zvJ:zxK 190:=fun S h wf a c W I=>by
 obtain⟨P,U⟩:=h;dsimp only[hdV];have J:S.length<=9223372036854775807:=by have:=wf.small;omega
 by_cases D:zaH S P U=0
 ·obtain⟨_,k,e,M,T,O⟩:=zcD D;subst e;rw[yi,D,yb rfl];exact(zyq a c S k U W wf I M D).mono (fun e w' ⟨sa,sc,E,F,hi⟩=>⟨sa,sc,_,E,F,rfl⟩)
 ·rw[ya D];exact(zvK a c S P U _ W J wf.big I rfl D).mono (fun e w' ⟨E,F⟩=>⟨none,0,0,E,F,rfl⟩)
structure ECl where
 n:Int
 ka:Option Addr
 kl:Nat
 kc:Nat
def zyf(x:ECl):Nat->Value
 | 0=>.int .i64 x.n
 | _=>.slice x.ka x.kl x.kc
theorem zxz(n:Nat)(hn:n<=100000)(w:World):(Instr.makeSlice 45 (.int .i64 (n:Int)) (.int .i64 (n:Int))).run Tryz.prog w=.ok (.slice (some ⟨w.heap.size,0,none⟩) n n) (w.alloc (.cells (madeCells #[.int .i64 0,.slice none 0 0] (n*2)) 55)):=by
 have I:(Tryz.prog.info? 55).map (fun i=>(i.zero,i.size,i.bytes))=some (some (.agg #[.int .i64 0,.slice none 0 0]),2,32):=by kernel_rfl
 obtain⟨i,hi,D,E,F⟩:=info_parts I;have h:=run_make (P:=Tryz.prog) w 45 55 i _ Tryz.underlying45 hi D .i64 .i64 n n (by omega) (by omega) (by rw[F];omega) (by omega);rw[E] at h;simp only[yi] at h;exact h
theorem zaC.putCl{w:World}{g n k:Nat}{F:Nat->Value}(h:w.rowIs g 55 (n*2) F)(x:ECl):∃ D,((w.setCell ⟨g,k*2,none⟩ (.int .i64 x.n)).setCell ⟨g,k*2+1,none⟩ (.slice x.ka x.kl x.kc)).rowIs g 55 (n*2) D/\(∀ j,j<2->D (k*2+j)=zyf x j)/\∀ i,i<k->∀ j,j<2->D (i*2+j)=F (i*2+j):=by
 refine⟨_,(h.set _ _).set _ _,fun j E=>?_,fun i hi j E=>?_⟩
 ·rcases(by omega:j=0\/j=1) with rfl|rfl
  ·rw[ya (by omega),yb (by omega)];rfl
  ·rw[yb rfl];rfl
 ·rw[ya (by omega),ya (by omega)]
theorem zzD(K:Nat)(eg:∀ args w,(callFunc K args).run Tryz.prog w=.ok (.enter K args) w)(a:Option Addr)(c n:Nat)(S:Nat->ECl)(R:Nat->ECl->Nat->Nat->World->Prop)(w:World)(hn:n<=100000)
  (hs:∀ i,i<n->∃ b o,a=some ⟨b,o,none⟩/\w.cell? ⟨b,o+i*2,none⟩=some (.int .i64 (S i).n)/\w.cell? ⟨b,o+i*2+1,none⟩=some (.slice (S i).ka (S i).kl (S i).kc))
  (hK:∀ i,i<n->∀ W,Below w.heap.size w W->Calls Tryz.prog K #[.agg #[.int .i64 (S i).n,.slice (S i).ka (S i).kl (S i).kc]] W fun e U=>∃ y:ECl,e=.returned (.agg #[.int .i64 y.n,.slice y.ka y.kl y.kc])/\Below W.heap.size W U/\St (fun b=>b<W.heap.size\/U.heap.size<=b) (R i y W.heap.size U.heap.size) U) :
  Calls Tryz.prog 134 #[.slice a n c,.func (.func K) #[] #[]] w fun e w' => e=.returned (.slice (some ⟨w.heap.size,0,none⟩) n n)/\Below w.heap.size w w' /\ zaC zyf 55 2 n R w.heap.size n w' := by
 have HS:Hid _:=hs;have HK:Hid _:=hK;clear hs hK;have b3:=zxz n hn
 go_enter Tryz.func134,Tryz.ntmps134
 go_wp2
 go_loopg [13] n (fun m s13 wr=>∃ k:Nat,k<=n/\n-k<=m/\s13=.int .i64 k/\Below w.heap.size w wr/\Hid (zaC zyf 55 2 n R w.heap.size k wr))
 case atStart=>exact⟨0,by omega,by omega,rfl,zaa _ _,zaC.zero w _ 55 2 n R (S 0)⟩
 case round =>
  obtain⟨k,hk,hg,rfl,I,O⟩:=hrel;by_cases M:k<n
  ·have b0:(k:Int)<(n:Int):=by omega
   obtain⟨b,o,rfl,c0,c1⟩:=HS.out k M;replace c0:=zab c0 I;replace c1:=zab c1 I;have b1:b<wr.heap.size:=yd _ _ c0;obtain⟨E,a5,F,Z⟩:=O.out.facts;have D:Hid (∀ W,Below wr.heap.size wr W->Calls _ _ _ _ _):=fun W hW=>HK.out k M W (I.trans (hW.mono I.size));generalize S k=x at *;obtain⟨xn,b4,b6,b5⟩:=x;dsimp only at c0 c1 D
   go_wp2_with (go_at_fn K;refine(D.out _ ?nd).mono ?_;(case nd=>exact zaa _ _);rintro e w3 ⟨⟨yn,a6,a8,a7⟩,rfl,J,h3⟩;have HR:Hid _:=h3;clear h3;have T:Hid (Below wr.heap.size wr w3):=(zaa _ _).trans (J.mono (by simp));have s3:Hid (wr.heap.size<=w3.heap.size):=T.out.size;have SZ:Hid _:=J.size;clear J;have q0:=(T.out.cell (by exact E)).trans (Z (k*2) (by omega));have q1:=(T.out.cell (by exact E)).trans (Z (k*2+1) (by omega));have a9:=fun o=>(T.out.frozen (by exact E)).trans (a5 o);have b2:w.heap.size<w3.heap.size:=yx E s3.out)
   go_roundg (n-(k+1))
   case measure=>omega
   case rel =>
    refine⟨k+1,by omega,by omega,by go_num,(((I.trans (T.out.mono I.size)).setCell (by simp) _).setCell (by simp) _),zaC.step O.out M T.out (by simp) ?_ HR.out rfl (((zaq.refl (fun b=>b=w.heap.size) _).trans (zaq.set (X:=fun b=>b=w.heap.size) _ _ rfl)).trans (zaq.set (X:=fun b=>b=w.heap.size) _ _ rfl)) (fun F Z=>zaC.putCl Z ⟨yn,a6,a8,a7⟩)⟩;have:=SZ.out;simpa using this
  ·have:k=n:=by omega
   subst this
   go_wp2
   go_ret;exact⟨rfl,I,O.out⟩
def RCl(G:List Cl)(i:Nat)(y:ECl)(lo hi:Nat)(V:World):Prop:=y.n=(cl G i).n/\y.kl=(cl G i).ks.length/\zaj V y.ka (cl G i).ks
theorem zvq{w:World}{g:Nat}{G:List Cl}(h:zaC zyf 55 2 G.length (RCl G) g G.length w):zaG w (some ⟨g,0,none⟩) G:=fun i hi=>by
 obtain⟨v,_,_,F,D,O⟩:=h;obtain⟨h1,_,_,_,_,J⟩:=O i hi;obtain⟨E,I,M⟩:=J.at;refine⟨g,0,rfl,?_⟩;rw[yz];refine⟨(D.cell (by omega)).trans ?_,(v i).ka,(v i).kc,(D.cell (by omega)).trans ?_,M⟩
 ·rw[<- E];exact congrArg some (h1 0 (by omega))
 ·rw[<- I];exact congrArg some (h1 1 (by omega))
theorem zsD(n:Int)(ka:Option Addr)(kc:Nat)(ks:List Int)(w:World)(hk:ks.length<=1000)(M:zaj w ka ks) :
  Calls Tryz.prog 135 #[.agg #[.int .i64 n,.slice ka ks.length kc]] w fun e w' => ∃ g,e=.returned (.agg #[.int .i64 n,.slice (some ⟨g,0,none⟩) ks.length ks.length])/\Below w.heap.size w w' /\ w.heap.size<=g/\w'.rowIs g 3 ks.length (fun j=>.int .i64 (ks.getD j 0)):=by
 have D:Hid (∀ W,Below w.heap.size w W->Calls _ _ _ _ _):=fun W hW=>zfl ka kc ks W (by omega) (M.below hW);clear M hk;obtain⟨l,hl⟩:∃ l,ks.length=l:=⟨_,rfl⟩;rw[hl] at D |-;clear hl
 go_enter Tryz.func135,Tryz.ntmps135
 go_wp2_with fail
 obtain⟨V,I⟩:∃ V,(w.alloc (.cells #[.int .i64 n,.slice ka l kc] 55)).alloc (.cells #[.int .i64 0,.slice none 0 0] 55)=V:=⟨_,rfl⟩;have Z:V.cell? ⟨w.heap.size,0,none⟩=some (.int .i64 n):=by rw[<- I];exact zay _ _ _ 0 _ rfl
 have v1:V.cell? ⟨w.heap.size,1,none⟩=some (.slice ka l kc):=by rw[<- I];exact zay _ _ _ 1 _ rfl
 have z0:V.cell? ⟨w.heap.size+1,0,none⟩=some (.int .i64 0):=by rw[<- I];exact zaz _ _ _ 0 _ rfl
 have z1:V.cell? ⟨w.heap.size+1,1,none⟩=some (.slice none 0 0):=by rw[<- I];exact zaz _ _ _ 1 _ rfl
 have zf:∀ o,V.frozen? ⟨w.heap.size+1,o,none⟩=false:=fun o=>by rw[<- I];exact ziW _ _ _ _ _
 have T:Hid (Below w.heap.size w V):=by rw[<- I];exact zam _ _ _
 have sV:w.heap.size+1<V.heap.size:=yd _ _ z0;have a5:w.heap.size<V.heap.size:=yd _ _ Z;rw[I];clear I
 go_region_held3 (fun O=>O.cell? ⟨w.heap.size,0,none⟩=some (.int .i64 n)/\O.cell? ⟨w.heap.size,1,none⟩=some (.slice ka l kc)) (go_keep) (first|(go_at_call 85;refine ye (D.out _ ?nd) ?_;(case nd=>exact T.out.drew);rintro e w3 ⟨rfl,J,F⟩;have E:Hid (Below V.heap.size V w3):=(yk V.heap.size V).drew.trans J;have U:Hid (Below w.heap.size w w3):=T.out.trans (E.out.mono T.out.size);have HR:Hid (w3.rowIs V.heap.size 3 l (fun j=>.int .i64 (ks.getD j 0))):=F;have u0:=zab Z E.out;have u1:=zab v1 E.out;have q0:=zab z0 E.out;have q1:=zab z1 E.out;have fz:=fun o=>(E.out.frozen (show (⟨w.heap.size+1,o,none⟩:Addr).block<V.heap.size from sV)).trans (zf o);have s3:V.heap.size<w3.heap.size:=World.rowIs.lt F;clear J F))
 go_wp2
 refine yv (v:=.agg #[.int .i64 n,.slice (some ⟨V.heap.size,0,none⟩) l l]) (by simp[results,Tryz.results135,go_sem,q0,q1]) rfl ⟨V.heap.size,rfl,(U.out.setCell (by simp) _).setCell (by simp) _,T.out.size,(HR.out.setOther (by simp;omega) _).setOther (by simp;omega) _⟩
theorem zqC(a:Option Addr)(c:Nat)(G:List Cl)(w:World)(U:G.length<=1000)(hK:∀ i,i<G.length->(cl G i).ks.length<=1000)(J:zaG w a G) :
  Calls Tryz.prog 134 #[.slice a G.length c,.func (.func 135) #[] #[]] w fun e w' => e=.returned (.slice (some ⟨w.heap.size,0,none⟩) G.length G.length)/\Below w.heap.size w w' /\ zaC zyf 55 2 G.length (RCl G) w.heap.size G.length w' := by
 obtain⟨f,I⟩:=Classical.skolem.1 (fun i=>show ∃ x:Option Addr × Nat,i<G.length->(∃ b o,a=some ⟨b,o,none⟩/\w.cell? ⟨b,o+i*2,none⟩=some (.int .i64 (cl G i).n)/\w.cell? ⟨b,o+i*2+1,none⟩=some (.slice x.1 (cl G i).ks.length x.2))/\zaj w x.1 (cl G i).ks by
  by_cases hi:i<G.length
  ·obtain⟨b,o,e,c0,ka,kc,c1,D⟩:=J i hi;exact⟨(ka,kc),fun _=>⟨⟨b,o,e,c0,c1⟩,D⟩⟩
  ·exact⟨(none,0),fun h=>absurd h hi⟩)
 refine zzD 135 (enters_of Tryz.func135 (by kernel_rfl) rfl) a c G.length (fun i=>⟨(cl G i).n,(f i).1,(cl G i).ks.length,(f i).2⟩) (RCl G) w (by omega) (fun i hi=>(I i hi).1) (fun i hi W M=>?_);refine(zsD (cl G i).n (f i).1 (f i).2 (cl G i).ks W (hK i hi) ((I i hi).2.below M)).mono ?_;rintro e w' ⟨g,rfl,O,hg,E⟩;refine⟨⟨(cl G i).n,some ⟨g,0,none⟩,(cl G i).ks.length,(cl G i).ks.length⟩,rfl,O,fun Z T=>⟨rfl,rfl,zfR (E.of_block (T.block g E.lt (fun F=>?_)))⟩⟩;have:=E.lt;rcases F with F|F <;> omega
theorem zhD(a:Option Addr)(c:Nat)(G:List Cl)(w:World)(Z:G.length<=1000)(hK:∀ i,i<G.length->(cl G i).ks.length<=1000)(I:zaG w a G) :
  Calls Tryz.prog 104 #[.agg #[.slice a G.length c]] w fun e w' => ∃ g,e=.returned (.agg #[.slice (some ⟨g,0,none⟩) G.length G.length])/\Below w.heap.size w w' /\ w.heap.size<=g/\St (fun b=>b<w.heap.size\/w'.heap.size<=b) (fun V=>zaG V (some ⟨g,0,none⟩) G) w' := by
 have D:Hid (∀ J M,Calls _ _ _ _ _):=fun J M=>zqC a c G ((w.alloc J).alloc M) Z hK (I.below (zam _ _ _));have T:Hid (∀ V:World,zaC zyf 55 2 G.length (RCl G) (w.heap.size+1+1) G.length V->St (fun b=>b<w.heap.size\/V.heap.size<=b) (fun V=>zaG V (some ⟨w.heap.size+1+1,0,none⟩) G) V):=fun V h=>(h.st (by omega) (yj _)).imp (fun V h=>zvq h);clear I hK;simp only[yr] at D;generalize G.length=n at *
 go_enter Tryz.func104,Tryz.ntmps104
 go_wp2_with (go_at_call 134;refine(D.out _ _).mono ?_;rintro e w3 ⟨rfl,E,F⟩;have U:Hid (zaC zyf 55 2 n (RCl G) (w.heap.size+1+1) n w3):=F;clear F;have y1:w3.cell? ⟨w.heap.size+1,0,none⟩=some (.slice none 0 0):=(E.cell (by simp)).trans (by go_simp);have y2:∀ o,w3.frozen? ⟨w.heap.size+1,o,none⟩=false:=fun o=>(E.frozen (by simp)).trans (by go_simp);have O:Hid (Below w.heap.size w w3):=(zam _ _ _).trans (E.mono (by omega));clear E)
 refine yv (v:=.agg #[.slice (some ⟨w.heap.size+1+1,0,none⟩) n n]) (by simp[results,Tryz.results104,go_sem,y1]) rfl ⟨w.heap.size+1+1,rfl,O.out.setCell (by simp) _,by omega,T.out _ (U.out.set (by omega) _)⟩
end Go.Proofs.YtcbcpomacdngmaaGreat
