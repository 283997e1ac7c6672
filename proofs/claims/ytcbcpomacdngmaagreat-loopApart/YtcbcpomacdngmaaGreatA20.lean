/-
  x
-/
import Derived.Test.YtcbcpomacdngmaaGreatA19
import Derived.Deep.DeepCutAuto
namespace Go.Proofs.YtcbcpomacdngmaaGreat
set_option maxRecDepth 100000
set_option maxHeartbeats 4000000
set_option linter.unusedVariables false
open Go.RowKit Tryz
variable{T S:List Nd}{E:Int}
def LH(S T:List Nd)(P C I:Int)(hs:List (Int × Int))(E R:Int):Prop :=
 (E≠0/\R=E/\T=[]) \/
 ∃ pa D:Nat,P=pa/\C=D/\E=0/\S.length<=24/\pa<S.length/\D<S.length /\
  (mQ S D pa=false->R=6/\T=[]) /\
  (mQ S D pa=true->(∀ h ∈ hs,∃ q:Nat,h.1=q/\q<S.length) /\
   ((∃ h ∈ hs,(nd S h.1.toNat).p≠pa)->R=6/\T=[]) /\
   ((∀ h ∈ hs,(nd S h.1.toNat).p=pa)->R=0/\(∀ i,i<S.length->(nd S i).ks.length<=1000)/\T.length=S.length /\
    ((((D:Int),I) ∈ hs/\T=S) \/
    (((D:Int),I) ∉ hs/\pa≠D/\((nd S D).p = -1\/∃ F:Nat,F<S.length/\F≠D/\(nd S D).p=F) /\
     ∃ at' : Nat,atS (nd (leaveG S D) pa).ks hs=at' /\ at' <=(nd (leaveG S D) pa).ks.length/\T=dD (leaveG S D) pa D at'))))
theorem Lb(a:OA)(c:Nat)(S:List Nd)(P C I D:Int)(ha:OA)(hc:Nat)(hs:List (Int × Int))(E R:Int)(T:List Nd)(w:Wd)(hN:S.length<=9223372036854775807)(hB:Big S)(hS:aD w a S)(hH:aZ w ha hs)(hm:hs.length<=1)(hE:dH S ((P,I) ::(C,D) :: hs)=E)(hI:LH S T P C D hs E R) :
  yO 192 #[.agg #[.slice a S.length c],.agg #[.int .i64 P,.int .i64 I],.agg #[.int .i64 C,.int .i64 D],.slice ha hs.length hc] w fun e w' => ∃ a' c', e=.returned (.tuple #[.agg #[.slice a' T.length c'],.int .i64 R])/\Below w.heap.size w w' /\ ∀ w3:World,(∀ b,w.heap.size<=b->w3.heap[b]?=w'.heap[b]?)->aD w3 a' T:=by
 have df:=fun(W:Wd) (b4:OA) (g7:Nat) (hW:aD W a S) (n5:aZ W b4 ((P,I) ::(C,D) :: hs))=>tX a c S b4 g7 ((P,I) ::(C,D) :: hs) W hN hB hW oab n5;rw[hE] at df;have DF:Hid (∀ (W:Wd) (b4:OA) (g7:Nat),aD W a S->aZ W b4 ((P,I) ::(C,D) :: hs)->yO 185 #[.agg #[.slice a S.length c],.slice b4 (hs.length+2) g7] W fun e w' => e=.returned (.int .i64 E)/\Below W.heap.size W w'):=df;have HS:Hid (aD w a S):=hS;have HH:Hid (aZ w ha hs):=hH;obtain⟨i0,n8,p1,p2,p3⟩:=info_parts De;clear hS hB df hE hH;obtain⟨m,g8⟩:∃ m,hs.length=m:=⟨_,rfl⟩;have HM:Hid (hs.length=m):=g8;rw[g8] at hm DF |-;have o6:¬ (1:Int)<(m:Int):=oaa
 have q2:decide ((1:Int)<(m:Int))=false:=yH o6;obtain⟨n,hn⟩:∃ n,S.length=n:=⟨_,rfl⟩;have HN:Hid (S.length=n):=hn;clear g8;have HC:Hid (LH S T P C D hs E R):=hI;rw[hn] at hN DF |-;clear hn hI
 go_enter func192,ntmps192
 go_upto_region 3 with fail
 obtain⟨W4,d7⟩:∃ W4,W4=((((w.alloc (.cells #[.slice a n c] 43)).alloc (.cells #[.int .i64 P,.int .i64 I] 61)).alloc (.cells #[.int .i64 C,.int .i64 D] 61)).alloc (.cells #[.slice none 0 0] 43)):=⟨_,rfl⟩;rw[<- d7];have d8:Below (w.heap.size+1+1+1+1) ((((w.alloc (.cells #[.slice a n c] 43)).alloc (.cells #[.int .i64 P,.int .i64 I] 61)).alloc (.cells #[.int .i64 C,.int .i64 D] 61)).alloc (.cells #[.slice none 0 0] 43)) W4:=by rw[d7];exact yv _ _
 obtain⟨l0,l1,l2,l3,l4,l5,l6⟩:=mR d8;have e6:W4.heap.size=w.heap.size+1+1+1+1:=by rw[d7];simp
 have d4:Hid (Bl w W4):=(fB _ _ _ _ _).trans (d8.mono oaa);have d5:Hid (Below (w.heap.size+1+1+1+1) ((((w.alloc (.cells #[.slice a n c] 43)).alloc (.cells #[.int .i64 P,.int .i64 I] 61)).alloc (.cells #[.int .i64 C,.int .i64 D] 61)).alloc (.cells #[.slice none 0 0] 43)) W4):=d8;clear d7 d8
 go_cut [10] (fun s11 wx=>s11=.int .i64 E/\Hid (Below (w.heap.size+1+1+1+1) ((((w.alloc (.cells #[.slice a n c] 43)).alloc (.cells #[.int .i64 P,.int .i64 I] 61)).alloc (.cells #[.int .i64 C,.int .i64 D] 61)).alloc (.cells #[.slice none 0 0] 43)) wx))
 case first =>
  have q9:=World.new_ne W4 _ l0;have r0:=World.new_ne W4 _ l1;have r4:=World.new_ne W4 _ l2;have r5:=World.new_ne W4 _ l3;have r6:=World.new_ne W4 _ l4
  cases hs with
  | nil =>
   have e0:m=0:=HM.symm;subst e0
   cases ha with
   | none =>
    go_region_held3 (fun M=>M.cell? ⟨w.heap.size,0,none⟩=some (.slice a n c)/\M.cell? ⟨w.heap.size+1,0,none⟩=some (.int .i64 P)/\M.cell? ⟨w.heap.size+1,1,none⟩=some (.int .i64 I)/\M.cell? ⟨w.heap.size+1+1,0,none⟩=some (.int .i64 C)/\M.cell? ⟨w.heap.size+1+1,1,none⟩=some (.int .i64 D)) (go_keep) (first|(go_at_call 185;refine(DF _ _ 2 (HS.below (d4.alloc oaa _).drew) (QN _ _ _ _ _ _ oaf oaf oaf oaf)).mono ?_;rintro e w6 ⟨rfl,b5⟩;have U:Below (w.heap.size+1+1+1+1) ((((w.alloc (.cells #[.slice a n c] 43)).alloc (.cells #[.int .i64 P,.int .i64 I] 61)).alloc (.cells #[.int .i64 C,.int .i64 D] 61)).alloc (.cells #[.slice none 0 0] 43)) w6:=(d5.alloc oaa _).drew.trans (b5.mono oab);obtain⟨m0,m1,m2,m3,m4,m5,m6⟩:=mR U;have H6:Hid (Below (w.heap.size+1+1+1+1) ((((w.alloc (.cells #[.slice a n c] 43)).alloc (.cells #[.int .i64 P,.int .i64 I] 61)).alloc (.cells #[.int .i64 C,.int .i64 D] 61)).alloc (.cells #[.slice none 0 0] 43)) w6):=U;clear b5 U))
    go_wp2_with fail
    go_meet
    case rel=>exact⟨rfl,H6⟩
   | some A0 =>
    go_region_held3 (fun M=>M.cell? ⟨w.heap.size,0,none⟩=some (.slice a n c)/\M.cell? ⟨w.heap.size+1,0,none⟩=some (.int .i64 P)/\M.cell? ⟨w.heap.size+1,1,none⟩=some (.int .i64 I)/\M.cell? ⟨w.heap.size+1+1,0,none⟩=some (.int .i64 C)/\M.cell? ⟨w.heap.size+1+1,1,none⟩=some (.int .i64 D)) (go_keep) (first|(go_at_call 185;refine(DF _ _ 2 (HS.below (d4.alloc oaa _).drew) (QN _ _ _ _ _ _ oaf oaf oaf oaf)).mono ?_;rintro e w6 ⟨rfl,b5⟩;have U:Below (w.heap.size+1+1+1+1) ((((w.alloc (.cells #[.slice a n c] 43)).alloc (.cells #[.int .i64 P,.int .i64 I] 61)).alloc (.cells #[.int .i64 C,.int .i64 D] 61)).alloc (.cells #[.slice none 0 0] 43)) w6:=(d5.alloc oaa _).drew.trans (b5.mono oab);obtain⟨m0,m1,m2,m3,m4,m5,m6⟩:=mR U;have H6:Hid (Below (w.heap.size+1+1+1+1) ((((w.alloc (.cells #[.slice a n c] 43)).alloc (.cells #[.int .i64 P,.int .i64 I] 61)).alloc (.cells #[.int .i64 C,.int .i64 D] 61)).alloc (.cells #[.slice none 0 0] 43)) w6):=U;clear b5 U))
    go_wp2_with fail
    go_meet
    case rel=>exact⟨rfl,H6⟩
  | cons h t =>
   have e0:t=[]/\m=1:=by
    have h1:=HM.out;rw[List.length_cons] at h1;exact⟨List.length_eq_zero_iff.1 oaa,oaa⟩
   obtain⟨e0,e1⟩:=e0;subst e0;subst e1;obtain⟨Q,qu⟩:=h;obtain⟨a7,a8,eh,_,_⟩:=HH.out 0 oac;subst eh
   have HC:Hid (∀ W,aZ W (some ⟨a7,a8,none⟩) [(Q,qu)]->W.cell? ⟨a7,a8,none⟩=some (.int .i64 Q)/\W.cell? ⟨a7,a8+1,none⟩=some (.int .i64 qu)):=fun W hW=>by
    obtain⟨b,o,e,h1,h2⟩:=hW 0 oac;cases e;exact⟨by simpa using h1,by simpa using h2⟩
   have e9:Hid (∀ b,some (⟨w.heap.size+1+1+1+1,0,none⟩:Addr)=some b->∀ j u,([.int .i64 P,.int .i64 I,.int .i64 C,.int .i64 D]:List Value)[j]?=some u->((W4.alloc (.cells #[.int .i64 P,.int .i64 I,.int .i64 C,.int .i64 D] 61)).drew).cell? (b.add j)=some u):=fun b hb j u hj=>by
    cases hb;rw[Addr.add_lit,<- e6]
    match j,hj with
    | 0,hj=>cases hj;go_simp
    | 1,hj=>cases hj;go_simp
    | 2,hj=>cases hj;go_simp
    | 3,hj=>cases hj;go_simp
   have j7:Hid (∀ j u,([.int .i64 Q,.int .i64 qu]:List Value)[j]?=some u->((W4.alloc (.cells #[.int .i64 P,.int .i64 I,.int .i64 C,.int .i64 D] 61)).drew).cell? ((⟨a7,a8,none⟩:Addr).add j)=some u):=fun j u hj=>by
    obtain⟨c0,c1⟩:=HC.out _ (HH.below (d4.alloc oaa (.cells #[.int .i64 P,.int .i64 I,.int .i64 C,.int .i64 D] 61)).drew);rw[Addr.add_lit]
    match j,hj with
    | 0,hj=>cases hj;exact c0
    | 1,hj=>cases hj;exact c1
   go_region_held3 (fun M=>M.cell? ⟨w.heap.size,0,none⟩=some (.slice a n c)/\M.cell? ⟨w.heap.size+1,0,none⟩=some (.int .i64 P)/\M.cell? ⟨w.heap.size+1,1,none⟩=some (.int .i64 I)/\M.cell? ⟨w.heap.size+1+1,0,none⟩=some (.int .i64 C)/\M.cell? ⟨w.heap.size+1+1,1,none⟩=some (.int .i64 D)) (go_keep) (first
    |(refine step_append_grows rfl (.tmp 21) (.tmp 22) 44 rfl 61 i0 (.agg #[.int .i64 0,.int .i64 0]) 2 16 underlying44 n8 p1 p2 p3 rfl oae (some ⟨w.heap.size+1+1+1+1,0,none⟩) 2 2 [.int .i64 P,.int .i64 I,.int .i64 C,.int .i64 D] rfl (fun h=>oah) rfl e9.out ⟨a7,a8,none⟩ 1 hc [.int .i64 Q,.int .i64 qu] rfl rfl j7.out (by intro u hu;simp at hu;rcases hu with rfl|rfl <;> rfl) oae oae oae ?_;intro v5 w5 c7 b0;have U:Below (w.heap.size+1+1+1+1) ((((w.alloc (.cells #[.slice a n c] 43)).alloc (.cells #[.int .i64 P,.int .i64 I] 61)).alloc (.cells #[.int .i64 C,.int .i64 D] 61)).alloc (.cells #[.slice none 0 0] 43)) w5:=(d5.alloc oaa _).drew.grown b0 oab (fun k hk=>by cases hk);obtain⟨k0,k1,k2,k3,k4,k5,k6⟩:=mR U;obtain⟨n7,p6,p0,l8⟩:=Eb c7;subst p0;have n2:Hid (aZ w5 n7 [(P,I),(C,D),(Q,qu)]):=l8;have H5:Hid (Below (w.heap.size+1+1+1+1) ((((w.alloc (.cells #[.slice a n c] 43)).alloc (.cells #[.int .i64 P,.int .i64 I] 61)).alloc (.cells #[.int .i64 C,.int .i64 D] 61)).alloc (.cells #[.slice none 0 0] 43)) w5):=U;clear c7 b0 U l8)
    |(go_at_call 185;refine(DF _ _ _ (HS.below ((fB _ _ _ _ _).trans (H5.mono oaa))) n2.out).mono ?_;rintro e w6 ⟨rfl,k8⟩;have m8:=H5.size;simp only[yw] at m8;have g4:Below (w.heap.size+1+1+1+1) ((((w.alloc (.cells #[.slice a n c] 43)).alloc (.cells #[.int .i64 P,.int .i64 I] 61)).alloc (.cells #[.int .i64 C,.int .i64 D] 61)).alloc (.cells #[.slice none 0 0] 43)) w6:=H5.trans (k8.mono m8);obtain⟨m0,m1,m2,m3,m4,m5,m6⟩:=mR g4;have H6:Hid (Below (w.heap.size+1+1+1+1) ((((w.alloc (.cells #[.slice a n c] 43)).alloc (.cells #[.int .i64 P,.int .i64 I] 61)).alloc (.cells #[.int .i64 C,.int .i64 D] 61)).alloc (.cells #[.slice none 0 0] 43)) w6):=g4;clear k8 g4))
   go_wp2_with fail
   go_meet
   case rel=>exact⟨rfl,H6⟩
 case rest =>
 obtain⟨rfl,H6⟩:=hcut;clear l0 l1 l2 l3 l4 l5 l6 e6 d4 d5 DF;obtain⟨w6,rfl⟩:∃ W,W=wc:=⟨_,rfl⟩;obtain⟨m0,m1,m2,m3,m4,m5,m6⟩:=mR H6.out;have n9:=HC.out;clear HC;rcases n9 with ⟨d6,hR,hT⟩ |⟨pa,O,rfl,rfl,d6,e3,hpa,hch,hX,hY⟩
 ·have hz:(E == 0)=false:=by simp[d6]
  have q8:decide (E=0)=false:=yH d6;have HR:Hid _:=hR;have HT:Hid (T=[]):=hT;clear hR hT
  go_wp2_with fail
  refine yz (v:=.tuple #[.agg #[.slice none 0 0],.int .i64 E]) (by simp[results,results192,go_sem,m5]) rfl ⟨none,⟨0,by rw[HR.out,HT.out];rfl⟩,?_,fun w3 _=>by rw[HT.out];exact fun _ hi=>absurd hi (yB _)⟩;exact((fB _ _ _ _ _).trans (H6.mono oaa)).setCell oab _
 ·subst d6;have hX:Hid _:=hX;have hY:Hid _:=hY;clear hN;have hN:=e3;have b2:Hid _:=fun(W:Wd) (hW:aD W a S)=>Cn a c S O pa W oaa hch hW;clear e3;rw[HN.out] at hN hpa hch b2;have J:Bl w w6:=(fB _ _ _ _ _).trans (H6.mono oaa);by_cases hfit:mQ S O pa=false
  ·rw[hfit] at b2;obtain⟨rfl,rfl⟩:=hX.out hfit;clear hX hY
   go_wp2_with (go_at_call 205;refine(b2 _ (HS.below J)).mono ?_;rintro e w7 ⟨rfl,a5⟩;have Z:=H6.size;simp only[yw] at Z;have b1:Below (w.heap.size+1+1+1+1) ((((w.alloc (.cells #[.slice a n c] 43)).alloc (.cells #[.int .i64 (pa:Int),.int .i64 I] 61)).alloc (.cells #[.int .i64 (O:Int),.int .i64 D] 61)).alloc (.cells #[.slice none 0 0] 43)) w7:=H6.trans (a5.mono Z);obtain⟨j0,j1,j2,j3,j4,j5,j6⟩:=mR b1;have H7:Hid (Below (w.heap.size+1+1+1+1) ((((w.alloc (.cells #[.slice a n c] 43)).alloc (.cells #[.int .i64 (pa:Int),.int .i64 I] 61)).alloc (.cells #[.int .i64 (O:Int),.int .i64 D] 61)).alloc (.cells #[.slice none 0 0] 43)) w7):=b1;clear a5 b1 Z)
   refine yz (v:=.tuple #[.agg #[.slice none 0 0],.int .i64 6]) (by simp[results,results192,go_sem,j5]) rfl ⟨none,0,rfl,?_,fun _ _ _ hi=>absurd hi (yB _)⟩;exact((fB _ _ _ _ _).trans (H7.mono oaa)).setCell oab _
  ·have hfit:mQ S O pa=true:=(by simpa using hfit);rw[hfit] at b2;obtain⟨hQ,hA,hK⟩:=hY.out hfit;have g0:Hid _:=hQ;have HA:Hid _:=hA;have e8:Hid _:=hK;rw[HN.out] at g0;clear hfit hQ hA hK hY hX
   go_wp2_with (go_at_call 205;refine(b2 _ (HS.below J)).mono ?_;rintro e w7 ⟨rfl,a5⟩;have Z:=H6.size;simp only[yw] at Z;have b1:Below (w.heap.size+1+1+1+1) ((((w.alloc (.cells #[.slice a n c] 43)).alloc (.cells #[.int .i64 (pa:Int),.int .i64 I] 61)).alloc (.cells #[.int .i64 (O:Int),.int .i64 D] 61)).alloc (.cells #[.slice none 0 0] 43)) w7:=H6.trans (a5.mono Z);have H7:Hid (Below (w.heap.size+1+1+1+1) ((((w.alloc (.cells #[.slice a n c] 43)).alloc (.cells #[.int .i64 (pa:Int),.int .i64 I] 61)).alloc (.cells #[.int .i64 (O:Int),.int .i64 D] 61)).alloc (.cells #[.slice none 0 0] 43)) w7):=b1;clear a5 b1 Z)
   clear m0 m1 m2 m3 m4 m5 m6 J
   go_loopg [39] 1 (fun g1 s39 wr=>∃ k:Nat,k<=m/\m-k<=g1/\s39=.int .i64 k/\Hid (Below (w.heap.size+1+1+1+1) ((((w.alloc (.cells #[.slice a n c] 43)).alloc (.cells #[.int .i64 (pa:Int),.int .i64 I] 61)).alloc (.cells #[.int .i64 (O:Int),.int .i64 D] 61)).alloc (.cells #[.slice none 0 0] 43)) wr)/\Hid (0<k->∀ h ∈ hs,(nd S h.1.toNat).p=pa))
   case atStart=>exact⟨0,oaa,oaa,rfl,H7,(fun h=>absurd h (Nat.lt_irrefl _):0<0->∀ h ∈ hs,(nd S h.1.toNat).p=pa)⟩
   case round =>
    clear H7;obtain⟨k,hk,p7,rfl,H6,A⟩:=hrel;have J:Bl w wr:=(fB _ _ _ _ _).trans (H6.mono oaa);have Z:=H6.size;simp only[yw] at Z;obtain⟨j0,j1,j2,j3,j4,j5,j6⟩:=mR H6.out;by_cases q1:k<m
    ·have o5:m=1:=oaa;have o0:k=0:=oaa;subst o0;subst o5
     obtain⟨h,c9⟩:∃ h,hs=[h]:=by
      cases hs with
      | nil=>exact absurd HM.out oac
      | cons x t =>
       have h1:=HM.out;rw[List.length_cons] at h1;have ht:t=[]:=List.length_eq_zero_iff.1 oaa;exact⟨x,by rw[ht]⟩
     obtain⟨q,g9,o8⟩:=g0.out h (by rw[c9];simp);obtain⟨a7,a8,eh,b7,e2⟩:=(HH.below J) 0 (by rw[c9];simp);rw[c9] at b7 e2;simp only[List.getD_cons_zero] at b7 e2;rw[g9] at b7;subst eh;have x0:wr.cell? ⟨a7,a8,none⟩=some (.int .i64 (q:Int)):=(by simpa using b7);have x1:wr.cell? ⟨a7,a8+1,none⟩=some (.int .i64 h.2):=(by simpa using e2);obtain⟨b,o,ea,_,_,_,_,qp,_⟩:=(HS.below J) q (by rw[HN.out];exact o8);subst ea;clear b7 e2 A;have q3:(q:Int)<(n:Int):=oaa;have d9:=yi _ _ qp;have q7:=yi _ _ x0;have J0:=nO j0;have J1:=nO j1;have J5:=nO j5;have q0:=yi _ _ j5;by_cases c8:(nd S q).p=(pa:Int)
     ·have NX:Hid (0<(1:Nat)->∀ h ∈ hs,(nd S h.1.toNat).p=pa):=fun _ h' hh=>by
       rw[c9,List.mem_singleton] at hh;rw[hh,g9,yk];exact c8
      rw[c8] at qp;have QQ:=nO qp;clear c8
      go_wp2_with fail
      go_quiet (fail)
      go_wp2_with fail
      go_roundg 0
      case measure=>omega
      case rel=>exact⟨1,oaa,oaa,by go_num,Below.drewNs (H6.alloc oaa _) _,NX⟩
     ·obtain⟨rfl,rfl⟩:=HA.out ⟨h,by rw[c9];simp,by rw[g9,yk];exact c8⟩;clear e8 HA;generalize (nd S q).p=pq at *;have q4:(pq ==(pa:Int))=false:=beq_eq_false_iff_ne.2 c8;have QQ:=nO qp
      go_wp2_with fail
      go_quiet (fail)
      go_wp2_with fail
      refine yz (v:=.tuple #[.agg #[.slice none 0 0],.int .i64 6]) (by simp[results,results192,go_sem,J5]) rfl ⟨none,0,rfl,?_,fun _ _ _ hi=>absurd hi (yB _)⟩;exact(Below.drewNs (J.alloc J.size _) _).setCell oab _
    ·have o2:k=m:=oaa
     have m7:∀ h ∈ hs,(nd S h.1.toNat).p=pa:=by
      cases hs with
      | nil=>exact fun _ hh=>by cases hh
      | cons x t =>
       have:=HM.out;rw[List.length_cons] at this;exact A.out oaa
     subst o2;obtain⟨rfl,j8,m9,hK⟩:=e8.out m7;have i9:Hid (T.length=n):=(m9.trans HN:T.length=n);have DC:Hid _:=fun(W:Wd) (hW:aD W a S)=>copy_any a c S W (by rw[HN.out];exact hN) j8 hW;have DH:Hid _:=fun(W:Wd) (hW:aZ W ha hs)=>Df ha hc hs (O:Int) D W (by rw[HM.out];omega) hW
     have OC:Hid (∀ (wr:Wd) (B g:Nat) (kb kc:Nat->Nat),Own wr B g S kb kc S.length->B<=g/\g<wr.heap.size/\(∀ b,AO g S.length kb b->g<=b/\b<wr.heap.size)):=fun wr B g kb kc h=>by
      obtain⟨hB,F,hF,n6,hg,_⟩:=h;refine⟨hB,hF.lt,fun b hb=>?_⟩;rcases hb with rfl |⟨i,hi,rfl⟩
      ·exact⟨yr _,hF.lt⟩
      ·exact⟨Nat.le_of_lt (hg i hi),(n6 i hi).row⟩
     obtain⟨bb,d9⟩:∃ bb,decide (((O:Int),D) ∈ hs)=bb:=⟨_,rfl⟩;have h7:Hid _:=d9;rw[d9,HM.out] at DH;rw[HN.out] at DC OC;have h9:Hid _:=hK;clear A m7 e8 HA hK j8 m9 d9 g0
     go_wp2_with fail
     refine(DC _ (HS.below J)).mono ?_;rintro e w7 ⟨g,kb,kc,rfl,a5,g5⟩;obtain⟨p8,p9,l7⟩:=OC.out _ _ _ _ _ g5;have HX:Hid (∀ b,AO g n kb b->g<=b/\b<w7.heap.size):=l7;clear l7;have q5:=a5.size;have H7:Hid (Below (w.heap.size+1+1+1+1) ((((w.alloc (.cells #[.slice a n c] 43)).alloc (.cells #[.int .i64 (pa:Int),.int .i64 I] 61)).alloc (.cells #[.int .i64 (O:Int),.int .i64 D] 61)).alloc (.cells #[.slice none 0 0] 43)) w7):=H6.trans (a5.mono Z);have n3:Hid (Own w7 wr.heap.size g S kb kc n):=g5;obtain⟨i0,i1,i2,i3,i4,i5,i6⟩:=mR H7.out;have M7:Hid (∀ w8 o1,Below (w7.heap.size+1) (w7.alloc o1) w8->Below (w.heap.size+1+1+1+1) ((((w.alloc (.cells #[.slice a n c] 43)).alloc (.cells #[.int .i64 (pa:Int),.int .i64 I] 61)).alloc (.cells #[.int .i64 (O:Int),.int .i64 D] 61)).alloc (.cells #[.slice none 0 0] 43)) w8/\Below w7.heap.size w7 w8):=fun w8 o1 h=>⟨(H7.alloc oaa o1).trans (h.mono oaa),((yv _ _).alloc (yr _) o1).trans (h.mono oaa)⟩;have I3:=nO i3;have I4:=nO i4;clear j0 j1 j2 j3 j4 j5 j6 a5 g5
     go_wp2_with fail
     refine(DH _ (HH.below (((fB _ _ _ _ _).trans (H7.mono oaa)).alloc oaa _))).mono ?_;rintro e w8 ⟨rfl,b6⟩;simp only[yw] at b6;have b8:w8.cell? ⟨w7.heap.size,0,none⟩=some (.slice (some ⟨g,0,none⟩) n n):=PU b6;obtain⟨H8,k9⟩:=M7.out _ _ b6;have o9:=b6.size;simp only[yw] at o9;have h8:Hid (Below (w.heap.size+1+1+1+1) ((((w.alloc (.cells #[.slice a n c] 43)).alloc (.cells #[.int .i64 (pa:Int),.int .i64 I] 61)).alloc (.cells #[.int .i64 (O:Int),.int .i64 D] 61)).alloc (.cells #[.slice none 0 0] 43)) w8):=H8;have i8:Hid (Own w8 wr.heap.size g S kb kc n):=Own.below n3 k9;clear i0 i1 i2 i3 i4 i5 i6 b6 I3 I4;obtain⟨i0,i1,i2,i3,i4,i5,i6⟩:=mR H8;clear H8;have o4:=h9.out;clear h9;rcases o4 with ⟨c6,hT⟩ |⟨c6,o7,l9,at', k7,e4,hT⟩
     ·have g6:bb=true:=h7.symm.trans (yI c6);subst g6;have HT:Hid (T=S):=hT;clear c6 hT;have n1:Hid (Bl w w8):=(fB _ _ _ _ _).trans (h8.mono oaa);have NS:Hid (∀ v (w3:Wd),(∀ b,g<=b->w3.heap[b]?=(w8.setCell ⟨w.heap.size+1+1+1,0,none⟩ v).heap[b]?)->aD w3 (some ⟨g,0,none⟩) S):=fun v w3 h4=>Own.up (kb:=kb) (kc:=kc) (B:=wr.heap.size) (by rw[HN.out];exact i8.out) _ (fun b hb=>(h4 b hb).trans (yx _ _ _ _ (by show b≠w.heap.size+1+1+1;omega)))
      go_wp2_with fail
      refine yz (v:=.tuple #[.agg #[.slice (some ⟨g,0,none⟩) n n],.int .i64 0]) (by simp[results,results192,go_sem,i5]) rfl ⟨some ⟨g,0,none⟩,n,by rw[i9.out],n1.setCell oab _,fun w3 h3=>by rw[HT.out];exact NS.out _ w3 (fun b hb=>h3 b (by have:=J.size;omega))⟩
     ·have g6:bb=false:=h7.symm.trans (yH c6);subst g6;have HT:Hid (T=dD (leaveG S O) pa O at'):=hT;have DE:Hid _:=fun(B g c:Nat) (kb kc:Nat->Nat) (W:Wd) (hO:Own W B g (leaveG S O) kb kc (leaveG S O).length) (hW:aZ W ha hs)=>Cy B g c (leaveG S O) kb kc pa O at' ha hc hs W hO (by rw[oM,HN.out];exact hpa) (by rw[oM,HN.out];exact hch) o7 (by rw[HM.out];exact hm) hW k7 e4;have DL:Hid _:=fun(B g c:Nat) (kb kc:Nat->Nat) (W:Wd) (hO:Own W B g S kb kc S.length)=>Dc B g c S kb kc O W hO (by rw[HN.out];exact hch) l9;simp only[oM,HN.out,HM.out] at DE DL
      have OP:Hid (∀ g kb b,b=g\/b=kb pa->AO g n kb b):=fun g kb b hb=>by
       rcases hb with hb|hb
       ·exact Or.inl hb
       ·exact Or.inr ⟨pa,hpa,hb⟩
      clear c6 hT l9 k7 e4
      go_wp2_with fail
      refine(DL _ g n kb kc _ i8.out).mono ?_;rintro e w9 ⟨rfl,a6,j9⟩;have q6:=a6.size;have b9:=(a6.cell (yi _ _ b8) (fun h=>by have:=HX.out _ h;simp at this)).trans b8;have H9:Below (w.heap.size+1+1+1+1) ((((w.alloc (.cells #[.slice a n c] 43)).alloc (.cells #[.int .i64 (pa:Int),.int .i64 I] 61)).alloc (.cells #[.int .i64 (O:Int),.int .i64 D] 61)).alloc (.cells #[.slice none 0 0] 43)) w9:=h8.trans (a6.below oaa (fun k hk=>by have:=HX.out _ hk;omega));have n4:Hid (Own w9 wr.heap.size g (leaveG S O) kb kc n):=j9;have e7:Hid (Below (w.heap.size+1+1+1+1) ((((w.alloc (.cells #[.slice a n c] 43)).alloc (.cells #[.int .i64 (pa:Int),.int .i64 I] 61)).alloc (.cells #[.int .i64 (O:Int),.int .i64 D] 61)).alloc (.cells #[.slice none 0 0] 43)) w9):=H9;clear i0 i1 i2 i3 i4 i5 i6 b8 a6 j9;obtain⟨i0,i1,i2,i3,i4,i5,i6⟩:=mR H9;clear H9
      go_wp2_with fail
      refine(DE _ g n kb kc _ n4.out (HH.below ((fB _ _ _ _ _).trans (e7.mono oaa)))).mono ?_;rintro e n0 ⟨rfl,a9,e5⟩;have b3:∀ b,b=g\/b=kb pa->g<=b/\b<w7.heap.size:=fun b hb=>HX.out b (OP g kb b hb);have p5:=(a9.cell (yi _ _ b9) (fun h=>by have:=b3 _ h;simp at this)).trans b9;have p4:=(a9.cell (yi _ _ i5) (fun h=>by have:=b3 _ h;dsimp only at this;omega)).trans i5;have f10:=fun o=>(a9.frozen (p:=⟨w.heap.size+1+1+1,o,none⟩) (yi w9 ⟨w.heap.size+1+1+1,0,none⟩ i5) (fun h=>by have:=b3 _ h;dsimp only at this;omega)).trans (i6 o);have i7:Hid _:=e5;have h6:Hid (Bl w n0):=((fB _ _ _ _ _).trans (e7.mono oaa)).trans (a9.below (by have:=e7.size;simp at this;omega) (fun k hk=>by have:=b3 _ hk;omega));have NS:Hid (∀ v (w3:Wd),(∀ b,g<=b->w3.heap[b]?=(n0.setCell ⟨w.heap.size+1+1+1,0,none⟩ v).heap[b]?)->aD w3 (some ⟨g,0,none⟩) (dD (leaveG S O) pa O at')):=fun v w3 h4=>i7.out _ (fun b hb=>(h4 b hb).trans (yx _ _ _ _ (by show b≠w.heap.size+1+1+1;omega)));clear e5 a9 i0 i1 i2 i3 i4 i5 i6 b9 b3
      go_wp2_with fail
      refine yz (v:=.tuple #[.agg #[.slice (some ⟨g,0,none⟩) n n],.int .i64 0]) (by simp[results,results192,go_sem,p4]) rfl ⟨some ⟨g,0,none⟩,n,by rw[i9.out],h6.setCell oab _,fun w3 h3=>by rw[HT.out];exact NS.out _ w3 (fun b hb=>h3 b (by have:=J.size;omega))⟩
theorem Ll(a:OA)(c:Nat)(S:List Nd)(p u E:Int)(cl:Bool)(w:Wd)(hN:S.length<=9223372036854775807)(U:Big S)(hS:aD w a S)(Z:aP S p u=E)(J:E≠0) :
  yO 193 #[.agg #[.slice a S.length c],.agg #[.int .i64 p,.int .i64 u],.bool cl] w fun e w' => e=.returned (.tuple #[.agg #[.slice none 0 0],.agg #[.int .i64 0,.int .i64 0],.int .i64 E])/\Below w.heap.size w w' := by
 have D0:Hid (∀ W,aD W a S->Calls _ _ _ _ _):=fun W hW=>AU a c S p u E W hN U hW Z J;have HS:Hid (aD w a S):=hS;have a5:(E == 0)=false:=by simp[J]
 clear hS Z U hN;generalize S.length=n at *;have BW:Hid (∀ W,Below (w.heap.size+1+1+1+1) ((((w.alloc (.cells #[.slice a n c] 43)).alloc (.cells #[.int .i64 p,.int .i64 u] 61)).alloc (.cells #[.slice none 0 0] 43)).alloc (.cells #[.int .i64 0,.int .i64 0] 61)) W->Bl w W):=fun W h=>(fB _ _ _ _ _).trans (h.mono oaa)
 go_enter func193,ntmps193
 go_wp2_with fail
 refine yj (D0 _ (HS.below (fB _ _ _ _ _))) ?_;rintro e w2 ⟨rfl,F⟩;simp only[yw] at F;have M:Hid (Below (w.heap.size+1+1+1+1) ((((w.alloc (.cells #[.slice a n c] 43)).alloc (.cells #[.int .i64 p,.int .i64 u] 61)).alloc (.cells #[.slice none 0 0] 43)).alloc (.cells #[.int .i64 0,.int .i64 0] 61)) w2):=F;have T:=F.size;simp only[yw] at T;obtain⟨l0,l1,l2,l3,l4,l5,l6,l7⟩:=pJ F;have q0:w.heap.size<w2.heap.size:=oaa
 have q1:w.heap.size+1<w2.heap.size:=oaa
 have q2:w.heap.size+1+1<w2.heap.size:=oaa
 have q3:w.heap.size+1+1+1<w2.heap.size:=oaa
 clear F;have I:Hid _:=M
 go_wp2
 refine yz (v:=.tuple #[.agg #[.slice none 0 0],.agg #[.int .i64 0,.int .i64 0],.int .i64 E]) (by simp only[results,results193];go_simp) rfl ⟨rfl,?_⟩;have D:=BW.out _ I.out;have O:=I.size;simp only[yw] at O
 first
  | exact((D.setCell oab _).setCell oab _).setCell oab _
  | exact(((D.setCell oab _).setCell oab _).setCell oab _).drew
  | exact(((D.alloc oaa _).setCell oab _).setCell oab _).setCell oab _
  | exact(((D.setCell oab _).setCell oab _).setCell oab _).alloc oab _
  | exact((((D.alloc oaa _).alloc oab _).setCell oab _).setCell oab _).setCell oab _
  | exact((((D.setCell oab _).setCell oab _).setCell oab _).alloc oab _).alloc oab _
theorem Lm(a:OA)(c:Nat)(S:List Nd)(k:Nat)(u:Int)(cl:Bool)(w:Wd)(wf:WF S)(hS:aD w a S)(hk:k<S.length)(hE:aP S k u=0)(hH:iD S k=true) :
  yO 193 #[.agg #[.slice a S.length c],.agg #[.int .i64 (k:Int),.int .i64 u],.bool cl] w fun e w' => e=.returned (.tuple #[.agg #[.slice none 0 0],.agg #[.int .i64 0,.int .i64 0],.int .i64 6])/\Below w.heap.size w w' := by
 have hN:=wf.small;have D0:Hid (∀ W,aD W a S->Calls _ _ _ _ _):=fun W T=>find_ok a c S k u W oaa wf.big T hk hE (by have:=wf.kids_small hk;omega);have d1:=fun W T=>xD a c S (k:Int) W oaa T oaa;rw[hH] at d1;have D1:Hid _:=d1;have HS:Hid (aD w a S):=hS;clear hS wf hE hH d1;obtain⟨x0,O⟩:∃ x,nd S k=x:=⟨_,rfl⟩;rw[O] at D0;clear O;generalize S.length=n at *;have BW:Hid (∀ W,Below (w.heap.size+1+1+1+1) ((((w.alloc (.cells #[.slice a n c] 43)).alloc (.cells #[.int .i64 (k:Int),.int .i64 u] 61)).alloc (.cells #[.slice none 0 0] 43)).alloc (.cells #[.int .i64 0,.int .i64 0] 61)) W->Bl w W):=fun W h=>(fB _ _ _ _ _).trans (h.mono oaa)
 go_enter func193,ntmps193
 go_wp2_with fail
 refine yj (D0 _ (HS.below (fB _ _ _ _ _))) ?_;rintro e w2 ⟨fg,rfl,E,_⟩;simp only[yw] at E;have I:Hid (Below (w.heap.size+1+1+1+1) ((((w.alloc (.cells #[.slice a n c] 43)).alloc (.cells #[.int .i64 (k:Int),.int .i64 u] 61)).alloc (.cells #[.slice none 0 0] 43)).alloc (.cells #[.int .i64 0,.int .i64 0] 61)) w2):=E;have Z:=E.size;simp only[yw] at Z;obtain⟨l0,l1,l2,l3,l4,l5,l6,l7⟩:=pJ E;have q0:w.heap.size<w2.heap.size:=oaa
 have q1:w.heap.size+1<w2.heap.size:=oaa
 have q2:w.heap.size+1+1<w2.heap.size:=oaa
 have q3:w.heap.size+1+1+1<w2.heap.size:=oaa
 clear E
 go_wp2_with fail
 refine yj (D1 _ (HS.below (BW _ (I.alloc oaa _)))) ?_;rintro e w3 ⟨rfl,F⟩;simp only[yw] at F;have J:Hid (Below (w.heap.size+1+1+1+1) ((((w.alloc (.cells #[.slice a n c] 43)).alloc (.cells #[.int .i64 (k:Int),.int .i64 u] 61)).alloc (.cells #[.slice none 0 0] 43)).alloc (.cells #[.int .i64 0,.int .i64 0] 61)) w3):=(I.alloc oaa _).trans (F.mono oaa);have a5:=F.size;simp only[yw] at a5;clear F l0 l1 l2 l3 l4 l5 l6 l7 q0 q1 q2 q3;obtain⟨l0,l1,l2,l3,l4,l5,l6,l7⟩:=pJ J.out;have q0:w.heap.size<w3.heap.size:=oaa
 have q1:w.heap.size+1<w3.heap.size:=oaa
 have q2:w.heap.size+1+1<w3.heap.size:=oaa
 have q3:w.heap.size+1+1+1<w3.heap.size:=oaa
 have M:Hid _:=J
 go_wp2
 refine yz (v:=.tuple #[.agg #[.slice none 0 0],.agg #[.int .i64 0,.int .i64 0],.int .i64 6]) (by simp only[results,results193];go_simp) rfl ⟨rfl,?_⟩;have D:=BW.out _ M.out;have U:=M.size;simp only[yw] at U
 first
  | exact((D.setCell oab _).setCell oab _).setCell oab _
  | exact(((D.setCell oab _).setCell oab _).setCell oab _).drew
  | exact(((D.alloc oaa _).setCell oab _).setCell oab _).setCell oab _
  | exact(((D.setCell oab _).setCell oab _).setCell oab _).alloc oab _
  | exact((((D.alloc oaa _).alloc oab _).setCell oab _).setCell oab _).setCell oab _
  | exact((((D.setCell oab _).setCell oab _).setCell oab _).alloc oab _).alloc oab _
theorem Lp(a:OA)(c:Nat)(S:List Nd)(k:Nat)(u E:Int)(cl:Bool)(w:Wd)(wf:WF S)(hS:aD w a S)(hk:k<S.length)(hE:aP S k u=0)(hH:iD S k=false)(hM:iR S 0=E)(Z:E≠0) :
  yO 193 #[.agg #[.slice a S.length c],.agg #[.int .i64 (k:Int),.int .i64 u],.bool cl] w fun e w' => e=.returned (.tuple #[.agg #[.slice none 0 0],.agg #[.int .i64 0,.int .i64 0],.int .i64 E])/\Below w.heap.size w w' := by
 have hN:=wf.small;have D0:Hid (∀ W,aD W a S->Calls _ _ _ _ _):=fun W hW=>find_ok a c S k u W oaa wf.big hW hk hE (by have:=wf.kids_small hk;omega);have d1:=fun W hW=>xD a c S (k:Int) W oaa hW oaa;rw[hH] at d1;have D1:Hid _:=d1;have D2:Hid (∀ W,aD W a S->Calls _ _ _ _ _):=fun W hW=>QS a c S 0 E W oaa wf.big hW hM Z;have HS:Hid (aD w a S):=hS;have b0:(E == 0)=false:=by simp[Z]
 clear hS wf hE hH d1 hM;obtain⟨x0,a5⟩:∃ x,nd S k=x:=⟨_,rfl⟩;rw[a5] at D0;clear a5;generalize S.length=n at *;have BW:Hid (∀ W,Below (w.heap.size+1+1+1+1) ((((w.alloc (.cells #[.slice a n c] 43)).alloc (.cells #[.int .i64 (k:Int),.int .i64 u] 61)).alloc (.cells #[.slice none 0 0] 43)).alloc (.cells #[.int .i64 0,.int .i64 0] 61)) W->Bl w W):=fun W h=>(fB _ _ _ _ _).trans (h.mono oaa)
 go_enter func193,ntmps193
 go_wp2_with fail
 refine yj (D0 _ (HS.below (fB _ _ _ _ _))) ?_;rintro e w2 ⟨fg,rfl,F,_⟩;simp only[yw] at F;have O:Hid (Below (w.heap.size+1+1+1+1) ((((w.alloc (.cells #[.slice a n c] 43)).alloc (.cells #[.int .i64 (k:Int),.int .i64 u] 61)).alloc (.cells #[.slice none 0 0] 43)).alloc (.cells #[.int .i64 0,.int .i64 0] 61)) w2):=F;have a7:=F.size;simp only[yw] at a7;obtain⟨l0,l1,l2,l3,l4,l5,l6,l7⟩:=pJ F;have q0:w.heap.size<w2.heap.size:=oaa
 have q1:w.heap.size+1<w2.heap.size:=oaa
 have q2:w.heap.size+1+1<w2.heap.size:=oaa
 have q3:w.heap.size+1+1+1<w2.heap.size:=oaa
 clear F
 go_wp2_with fail
 refine yj (D1 _ (HS.below (BW _ (O.alloc oaa _)))) ?_;rintro e w3 ⟨rfl,I⟩;simp only[yw] at I;have J:Hid (Below (w.heap.size+1+1+1+1) ((((w.alloc (.cells #[.slice a n c] 43)).alloc (.cells #[.int .i64 (k:Int),.int .i64 u] 61)).alloc (.cells #[.slice none 0 0] 43)).alloc (.cells #[.int .i64 0,.int .i64 0] 61)) w3):=(O.alloc oaa _).trans (I.mono oaa);have a8:=I.size;simp only[yw] at a8;clear I l0 l1 l2 l3 l4 l5 l6 l7 q0 q1 q2 q3;obtain⟨l0,l1,l2,l3,l4,l5,l6,l7⟩:=pJ J.out;have q0:w.heap.size<w3.heap.size:=oaa
 have q1:w.heap.size+1<w3.heap.size:=oaa
 have q2:w.heap.size+1+1<w3.heap.size:=oaa
 have q3:w.heap.size+1+1+1<w3.heap.size:=oaa
 go_wp2_with fail
 refine yj (D2 _ (HS.below (BW _ J.out))) ?_;rintro e w4 ⟨rfl,M⟩;have T:Hid (Below (w.heap.size+1+1+1+1) ((((w.alloc (.cells #[.slice a n c] 43)).alloc (.cells #[.int .i64 (k:Int),.int .i64 u] 61)).alloc (.cells #[.slice none 0 0] 43)).alloc (.cells #[.int .i64 0,.int .i64 0] 61)) w4):=J.trans (M.mono oaa);have a9:=M.size;clear M l0 l1 l2 l3 l4 l5 l6 l7 q0 q1 q2 q3;obtain⟨l0,l1,l2,l3,l4,l5,l6,l7⟩:=pJ T.out;have q0:w.heap.size<w4.heap.size:=oaa
 have q1:w.heap.size+1<w4.heap.size:=oaa
 have q2:w.heap.size+1+1<w4.heap.size:=oaa
 have q3:w.heap.size+1+1+1<w4.heap.size:=oaa
 have U:Hid _:=T
 go_wp2
 refine yz (v:=.tuple #[.agg #[.slice none 0 0],.agg #[.int .i64 0,.int .i64 0],.int .i64 E]) (by simp only[results,results193];go_simp) rfl ⟨rfl,?_⟩;have D:=BW.out _ U.out;have a6:=U.size;simp only[yw] at a6
 first
  | exact((D.setCell oab _).setCell oab _).setCell oab _
  | exact(((D.setCell oab _).setCell oab _).setCell oab _).drew
  | exact(((D.alloc oaa _).setCell oab _).setCell oab _).setCell oab _
  | exact(((D.setCell oab _).setCell oab _).setCell oab _).alloc oab _
  | exact((((D.alloc oaa _).alloc oab _).setCell oab _).setCell oab _).setCell oab _
  | exact((((D.setCell oab _).setCell oab _).setCell oab _).alloc oab _).alloc oab _
def rS(E:Int)(T:List Nd):List Nd:=if E=0 then T else []
def rH(E:Int)(h:Int × Int):Int × Int:=if E=0 then h else (0,0)
theorem lM:rS 0 T=T:=rfl
theorem nC(h:E≠0):rS E T=[]:=yd h
theorem EI{T:Int × Int}(h:E≠0):rH E T=(0,0):=yd h
theorem qM(W:Wd):aD W none []:=fun _ hi=>absurd hi (yB _)
abbrev LJ(f:Nat)(S T:List Nd)(more:Array Value)(E:Int):Prop:=∀ (a:OA) (c:Nat) W,aD W a S ->
 yO f (#[.agg #[.slice a S.length c]] ++ more) W fun e w' => ∃ D F,e=.returned (.tuple #[.agg #[.slice D T.length F],.int .i64 E])/\Below W.heap.size W w' /\ St (fun b=>b<W.heap.size) (fun V=>aD V D T) w'
theorem LK{w' : World}{a:OA}{B g:Nat}(hg:B<=g)(hn:∀ w3:World,(∀ b,g<=b->w3.heap[b]?=w'.heap[b]?)->aD w3 a T):St (fun b=>b<B) (fun V=>aD V a T) w' := fun V E=>by
 have e:∀ b,b<w'.heap.size->(V.heap.extract 0 w'.heap.size)[b]?=V.heap[b]?:=fun b hb=>by
  have:=E.size;simp[Array.getElem?_extract];omega
 have h:=hn { V with heap:=V.heap.extract 0 w'.heap.size } (fun b hb=>by
  show (V.heap.extract 0 w'.heap.size)[b]?=w'.heap[b]?;by_cases h1:b<w'.heap.size
  ·rw[e b h1];exact E.block b h1 (by show ¬ b<B;omega)
  ·rw[Array.getElem?_eq_none oab,Array.getElem?_eq_none oaa])
 have D:(V.heap.extract 0 w'.heap.size).size=w'.heap.size:=by have:=E.size;simp;omega
 exact h.below ⟨rfl,rfl,rfl,by show (V.heap.extract 0 w'.heap.size).size<=_;rw[D];exact E.size,fun b hb=>(e b (by rw[<- D];exact hb)).symm⟩
abbrev hdV(h:Int × Int):Value:=.agg #[.int .i64 h.1,.int .i64 h.2]
def Lr(f:Nat):Prop:=∀ (S:List Nd) (h:Int × Int),WF S->LJ f S (rS (xL S h.1 h.2) (S.set h.1.toNat (lY (nd S h.1.toNat)))) #[hdV h] (xL S h.1 h.2)
def Ls(f:Nat):Prop:=∀ (S:List Nd) (h:Int × Int),WF S->LJ f S (rS (xM S h.1 h.2) (leaveG S h.1.toNat)) #[hdV h] (xM S h.1 h.2)
def Lt(f:Nat):Prop:=∀ (S:List Nd) (h g:Int × Int) (hs:List (Int × Int)) (ha:OA) (hc:Nat),WF S->hs.length<=1->∀ (a:OA) (c:Nat) W,aD W a S->aZ W ha hs ->
 yO f #[.agg #[.slice a S.length c],hdV h,hdV g,.slice ha hs.length hc] W fun e w' => ∃ D E,e=.returned (.tuple #[.agg #[.slice D (rS (fT S h.1 h.2 g.1 g.2 hs) (kE S h.1 g.1 hs)).length E],.int .i64 (fT S h.1 h.2 g.1 g.2 hs)])/\Below W.heap.size W w' /\ St (fun b=>b<W.heap.size) (fun V=>aD V D (rS (fT S h.1 h.2 g.1 g.2 hs) (kE S h.1 g.1 hs))) w'
def Lu(f:Nat):Prop:=∀ (S:List Nd) (h:Int × Int) (t m:Int) (qa:OA) (qc:Nat),WF S->∀ (a:OA) (c:Nat) W,aD W a S->jM W qa [⟨t,m,false⟩] ->
 yO f #[.agg #[.slice a S.length c],hdV h,.slice qa 1 qc] W fun e w' => ∃ D E n,e=.returned (.tuple #[.slice D n E,.int .i64 (rV S h.1 h.2 [⟨t,m,false⟩])])/\Below W.heap.size W w' /\ n=if rV S h.1 h.2 [⟨t,m,false⟩]=0 then (oP S h.1.toNat [⟨t,m,false⟩]).length else 0
def Lv(f:Nat):Prop:=∀ (S:List Nd) (h:Int × Int),WF S->∀ (a:OA) (c:Nat) W,aD W a S ->
 yO f #[.agg #[.slice a S.length c],hdV h] W fun e w' => ∃ D E n,e=.returned (.tuple #[.slice D n E,.int .i64 (aP S h.1 h.2)])/\Below W.heap.size W w' /\ n=if aP S h.1 h.2=0 then (mW S h.1.toNat).length else 0
theorem yY(S:List Nd)(p u:Int):dH S [(p,u)]=aP S p u:=by
 unfold dH aP mP mP;by_cases h:iX S p u=0
 ·simp[h]
 ·simp[h]
theorem VG(wf:WF S){D:Nat}(hch:D<S.length):(nd S D).p = -1\/∃ E:Nat,E<S.length/\E≠D/\(nd S D).p=E:=by
 by_cases e:(nd S D).p = -1
 ·exact Or.inl e
 ·obtain⟨E,F,g1,g2,_⟩:=wf.parent_place hch e;exact Or.inr ⟨E,g1,g2,F⟩
theorem sK(wf:WF S):∀ i,i<S.length->(nd S i).ks.length<=1000:=fun i hi=>by have:=wf.kids_small hi;omega
theorem Lx:Lr 167:=fun S h wf a c W F=>by
 obtain⟨P,U⟩:=h;dsimp only[hdV];have J:S.length<=9223372036854775807:=by have:=wf.small;omega
 unfold xL;by_cases D:aP S P U=0
 ·rw[ye D];obtain⟨_,k,e,I,O,M⟩:=lC D;subst e;rw[yk];by_cases hl:nP S k
  ·rw[ye hl,lM];refine(Lh a c S k U W wf.small (sK wf) F I D hl).mono (fun e w' ⟨g,E,hb,hg,hn⟩=>⟨some ⟨g,0,none⟩,S.length,?_,hb,LK hg hn⟩);rw[E,List.length_set]
  ·rw[yd hl,nC oae];exact(Lg a c S k U W J wf.big F I D (by have:=sK wf k I;omega) hl).mono (fun e w' ⟨E,hb⟩=>⟨none,0,E,hb,fun V _=>qM V⟩)
 ·rw[yd D,nC D];exact(Lf a c S P U _ W J wf.big F rfl D).mono (fun e w' ⟨E,hb⟩=>⟨none,0,E,hb,fun V _=>qM V⟩)
theorem Ma:Ls 168:=fun S h wf a c W I=>by
 obtain⟨P,U⟩:=h;dsimp only[hdV];have T:S.length<=9223372036854775807:=by have:=wf.small;omega
 unfold xM;by_cases D:aP S P U=0
 ·rw[ye D];obtain⟨_,k,e,J,hu,a5⟩:=lC D;subst e;rw[yk];have Z:dH S [((k:Int),U)]=0:=(yY _ _ _).trans D;rcases VG wf J with hp |⟨p0,M,O,F⟩
  ·rw[ye hp,nC oae];exact(Ld a c S k U W T wf.big I Z J hp).mono (fun e w' ⟨E,hb⟩=>⟨none,0,E,hb,fun V _=>qM V⟩)
  ·have hG:leaveG S k=eD S p0 k:=(by unfold leaveG;rw[yd oaa,F,yk]);rw[yd oaa,lM,hG];refine(Le a c S k p0 U W wf.small wf.big I Z J M O F (sK wf)).mono (fun e w' ⟨g,E,hb,hg,hn⟩=>⟨some ⟨g,0,none⟩,S.length,?_,hb,LK hg hn⟩);rw[E,rF]
 ·rw[yd D,nC D];exact(Lc a c S P U _ W T wf.big I (yY _ _ _) D).mono (fun e w' ⟨E,hb⟩=>⟨none,0,E,hb,fun V _=>qM V⟩)
theorem Mc{P J C:Int}{hs:List (Int × Int)}(wf:WF S)(hm:hs.length<=1):LH S (rS (fT S P J C E hs) (kE S P C hs)) P C E hs (dH S ((P,J) ::(C,E) :: hs)) (fT S P J C E hs):=by
 by_cases F:dH S ((P,J) ::(C,E) :: hs)=0
 ·obtain⟨_,O⟩:=UA F;obtain⟨pa,e1,hpa,hpu,a9⟩:=O (P,J) oac;obtain⟨T,e2,hch,hcu,a6⟩:=O (C,E) oac;dsimp only at e1 e2 a9 a6;subst e1;subst e2;have hK:=sK wf;refine .inr ⟨pa,T,rfl,rfl,F,wf.small,hpa,hch,fun Z=>?_,fun Z=>⟨fun h hh=>?_,?_⟩⟩
  ·have e:fT S pa J T E hs=6:=(by unfold fT;rw[ye F,yk,yk,yd (by rw[Z];decide)]);rw[e];exact⟨rfl,nC oae⟩
  ·obtain⟨q,e,hq,_⟩:=O h (by simp[hh]);exact⟨q,e,hq⟩
  ·have pt:uH S pa T:=⟨wf,hpa,hch,hpu,hcu,Z⟩;obtain⟨f1,f2,f3⟩:=RB Z;have hl:=oM S T;have a5:=VG wf hch;unfold fT kE;rw[ye F];simp only[yk];rw[ye Z]
   match hs,hm,F,O with
   | [],_,F,O =>
    exact⟨fun⟨h,hh,_⟩=>(by cases hh),fun _=>⟨rfl,hK,by rw[lM,qC,hl],.inr ⟨oac,f2,a5,(nd (leaveG S T) pa).ks.length,rfl,oaa,lM⟩⟩⟩
   | [(Q,qu)],_,F,O =>
    obtain⟨q,e3,hq,b3,b0⟩:=O (Q,qu) oac;dsimp only at e3 b0;subst e3;dsimp only;rw[yk]
    have I:∀ h ∈ [((q:Int),qu)],(nd S h.1.toNat).p=(nd S q).p:=fun h hh=>by
     have:h=((q:Int),qu):=(by simpa using hh);subst this;rw[yk]
    by_cases D:(nd S q).p=pa
    ·rw[ye D,lM];refine⟨fun⟨h,hh,a8⟩=>absurd ((I h hh).trans D) a8,fun _=>?_⟩;by_cases M:q=T
     ·subst M;have a7:E=qu:=oaa;subst a7;rw[ye rfl];exact⟨rfl,hK,rfl,.inl ⟨List.mem_singleton.2 rfl,rfl⟩⟩
     ·rw[yd oaa];obtain⟨at', U,b1,b2⟩:=pt.ahead hq D M;rw[U,yk];exact⟨rfl,hK,by rw[qC,hl],.inr ⟨fun e=>M (by have:=congrArg Prod.fst (List.mem_singleton.1 e);simp at this;omega),f2,a5,at', U,oaa,rfl⟩⟩
    ·rw[yd D];exact⟨fun _=>⟨rfl,nC oae⟩,fun h=>absurd ((I _ (List.mem_singleton.2 rfl)).symm.trans (h _ (List.mem_singleton.2 rfl))) D⟩
   | _ :: _ :: _,h,_,_=>exact absurd h oac
 ·have e:fT S P J C E hs=dH S ((P,J) ::(C,E) :: hs):=by unfold fT;rw[yd F]
  exact .inl ⟨F,e,by rw[e,nC F]⟩
theorem VH:Lt 192:=fun S h g hs ha hc wf D a c W M J =>
 (Lb a c S h.1 g.1 h.2 g.2 ha hc hs _ _ _ W (by have:=wf.small;omega) wf.big M J D rfl (Mc wf D)).mono (fun e w' ⟨E,F,I,hb,hn⟩=>⟨E,F,I,hb,LK (yr _) hn⟩)
theorem Md:Lu 189:=fun S h t m qa qc wf a c W I J=>by
 obtain⟨P,U⟩:=h;dsimp only[hdV];have T:S.length<=9223372036854775807:=by have:=wf.small;omega
 unfold rV;by_cases D:aP S P U=0
 ·rw[ye D];obtain⟨_,k,e,M,hu,Z⟩:=lC D;subst e;rw[yk];by_cases F:qE [⟨t,m,false⟩]=0
  ·rw[F,ye rfl];exact(Fw a c S k U qa qc [⟨t,m,false⟩] W wf M hu ((yY _ _ _).trans D) I J F).mono (fun e w' ⟨O,fc,E,hb,hi,_⟩=>⟨O,fc,_,E,hb,rfl⟩)
  ·rw[yd F];exact(Fu a c S k U _ qa qc [⟨t,m,false⟩] W wf M ((yY _ _ _).trans D) I oac J rfl F).mono (fun e w' ⟨E,hb⟩=>⟨none,0,0,E,hb,rfl⟩)
 ·rw[yd D,yd D];exact(Fs a c S P U _ _ W T wf.big I (yY _ _ _) D).mono (fun e w' ⟨E,hb⟩=>⟨none,0,0,E,hb,rfl⟩)
theorem Me:Lv 190:=fun S h wf a c W F=>by
 obtain⟨P,U⟩:=h;dsimp only[hdV];have I:S.length<=9223372036854775807:=by have:=wf.small;omega
 by_cases D:aP S P U=0
 ·obtain⟨_,k,e,J,O,M⟩:=lC D;subst e;rw[yk,D,ye rfl];exact(Hq a c S k U W wf F J D).mono (fun e w' ⟨sa,sc,E,hb,hi⟩=>⟨sa,sc,_,E,hb,rfl⟩)
 ·rw[yd D];exact(Hl a c S P U _ W I wf.big F rfl D).mono (fun e w' ⟨E,hb⟩=>⟨none,0,0,E,hb,rfl⟩)
