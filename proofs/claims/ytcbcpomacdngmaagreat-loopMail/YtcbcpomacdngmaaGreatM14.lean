/-
  x
-/
import Derived.Test.YtcbcpomacdngmaaGreatM13
namespace Go.Proofs.YtcbcpomacdngmaaGreat
set_option maxRecDepth 100000
set_option maxHeartbeats 4000000
set_option linter.unusedVariables false
open Go.RowKit
def tst(q:List Tst)(i:Nat):Tst:=q.getD i ⟨0,0,false⟩
def zci(w:World)(a:Option Addr)(q:List Tst):Prop :=
 ∀ i,i<q.length->∃ b o,a=some ⟨b,o,none⟩/\w.cell? ⟨b,o+i*3,none⟩=some (.int .i64 (tst q i).t)/\w.cell? ⟨b,o+i*3+1,none⟩=some (.int .i64 (tst q i).m)/\w.cell? ⟨b,o+i*3+2,none⟩=some (.bool (tst q i).near)
theorem zci.below{w w' : World}{a:Option Addr}{q:List Tst}(h:zci w a q)(D:Below w.heap.size w w'):zci w' a q:=fun i hi=>by
 obtain⟨b,o,e,h1,E,F⟩:=h i hi;exact⟨b,o,e,(D.cell (yd w ⟨b,o+i*3,none⟩ h1)).trans h1,(D.cell (yd w ⟨b,o+i*3+1,none⟩ E)).trans E,(D.cell (yd w ⟨b,o+i*3+2,none⟩ F)).trans F⟩
theorem zwW{q:List Tst}{j:Nat}(h:j<q.length):(q.take (j+1)).reverse=tst q j ::(q.take j).reverse:=by
 rw[List.take_add_one,List.getElem?_eq_getElem h,List.reverse_append];unfold tst;rw[zae q _ h];rfl
theorem zuA{S:List Nd}{te:Tst}{l:List Tst}{ps:List Int}:zrC S (te :: l) ps=if l.length=0 then zgA S te ps else zrC S l (zcP S te.near (zgA S te ps)):=by
 cases l with
 | nil=>rfl
 | cons D r=>rfl
theorem zrv(S:List Nd)(a:Option Addr)(c:Nat)(te:Tst)(w:World)(hS:zah w a S)(D:Nat)(ps:List Int)(b0:zch S ps)(v:Value)(W:World)(hb:Below w.heap.size w W)(T:D<W.heap.size)(cs:W.cell? ⟨w.heap.size,0,none⟩=some (.slice a S.length c))(t0:W.cell? ⟨D,0,none⟩=some (.int .i64 te.t))(t1:W.cell? ⟨D,1,none⟩=some (.int .i64 te.m))(t2:W.cell? ⟨D,2,none⟩=some (.bool te.near))
  (I:W.ownsRow (w.heap.size+1) 3 1 v ps.length (ps.map (Value.int .i64))) (a9:∀ k,v.ownBlock=some k->k≠D) :
  yL 197 #[v,.func (.func 211) #[] #[.pointer (some ⟨D,0,none⟩),.pointer (some ⟨w.heap.size,0,none⟩)]] W fun e w' => ∃ v', e=.returned v' /\ Below w.heap.size w w' /\ w'.ownsRow (w.heap.size+1) 3 1 v' (zgA S te ps).length ((zgA S te ps).map (Value.int .i64))/\(∀ o,w'.cell? ⟨D,o,none⟩=W.cell? ⟨D,o,none⟩)/\w'.cell? ⟨w.heap.size,0,none⟩=some (.slice a S.length c)/\W.heap.size<=w'.heap.size:=by
 have eg:=yJ Tryz.func211 (by kernel_rfl) rfl;rcases I.2 with ⟨e,e0⟩ |⟨g,cap,b4,e,hg,U,h3,h4,h5,h6⟩
 ·subst e;have Z:ps=[]:=List.length_eq_zero_iff.1 e0;subst Z;refine(zkc _ _ W eg).mono ?_;rintro e w' ⟨rfl,E⟩;exact⟨_,rfl,hb.trans (E.mono hb.size),World.ownsRow_nil _ _ _ _,fun o=>E.cell (by exact T),(E.cell (yd _ _ cs)).trans cs,E.size⟩
 ·subst e;have a8:g≠D:=a9 g rfl;have b5:g<W.heap.size:=(Array.getElem?_eq_some_iff.1 U).1;have J:cap<=9223372036854775807:=by unfold maxLen at h4;omega
  obtain⟨_,_,_,_,G,hG,a7⟩:=zkV I
  have a5:∀ w1,Off (fun b=>b=g) W w1->Below w.heap.size w w1/\(∀ o,w1.cell? ⟨D,o,none⟩=W.cell? ⟨D,o,none⟩)/\w1.cell? ⟨w.heap.size,0,none⟩=some (.slice a S.length c):=fun w1 h1 =>
   ⟨hb.trans (h1.below hb.size (fun k hk=>by omega)),fun o=>h1.cell (by exact T) (fun e=>a8 (by simpa using e.symm)),(h1.cell (yd _ _ cs) (fun e=>by simp at e;omega)).trans cs⟩
  refine(zlt 211 _ (fun x=>!zwX te.t te.m (nd S x.toNat)) g ps.length cap ps G W rfl h3 J hG a7 eg (fun x hx w1 h1=>?_)).mono ?_
  ·obtain⟨k,rfl,hk⟩:=b0 x hx;obtain⟨b1,M,b3⟩:=a5 w1 h1;have:=zwR a c S te.t te.m te.near D w.heap.size k w1 hk (hS.below b1) ((M 0).trans t0) ((M 1).trans t1) ((M 2).trans t2) b3;rw[yi];exact this
  ·rintro e w' ⟨rfl,F,G', a6,O⟩;obtain⟨b1,M,b3⟩:=a5 w' F;refine⟨_,rfl,b1,zkO a6 O (yG (zsK _ _) h3) h4 hg,M,b3,F.size⟩
theorem zwa(a:Option Addr)(c:Nat)(S:List Nd)(place:Nat)(qa:Option Addr)(qc:Nat)(q:List Tst)(w:World)(wf:WF S)(hp:place<S.length)(hS:zah w a S)(hq:q.length<=6)(hQ:zci w qa q) :
  yL 201 #[.agg #[.slice a S.length c],.int .i64 (place:Int),.slice qa q.length qc] w fun e w' => e=.returned (.bool (zeE S place q))/\Below w.heap.size w w' := by
 have hN:=wf.small;have T:Hid (∀ (te:Tst) bt ps,zch S ps->∀ v W,Below w.heap.size w W->bt<W.heap.size->W.cell? ⟨w.heap.size,0,none⟩=some (.slice a S.length c)->W.cell? ⟨bt,0,none⟩=some (.int .i64 te.t)->W.cell? ⟨bt,1,none⟩=some (.int .i64 te.m)->W.cell? ⟨bt,2,none⟩=some (.bool te.near)->W.ownsRow (w.heap.size+1) 3 1 v ps.length (ps.map (Value.int .i64))->(∀ k,v.ownBlock=some k->k≠bt)->Calls _ _ _ _ _):=fun te bt ps e7 v W hb e1 cs t0 t1 t2 b6 e5=>zrv S a c te w hS bt ps e7 v W hb e1 cs t0 t1 t2 b6 e5;have d4:Hid (∀ pa pc places near W,zah W a S->places.length<=1000000->zal W pa places->Calls _ _ _ _ _):=fun pa pc places near W hW hL hP=>zrV a c S pa pc places near W hN hW hL hP;have PL:Hid (∀ near ps,zch S ps->zch S (zcP S near ps)):=fun near ps h=>(ztA wf near h).1;have PN:Hid (∀ te ps,zch S ps->zch S (zgA S te ps)):=fun te ps h=>h.sift;have HS:Hid (zah w a S):=hS;have HQ:Hid (zci w qa q):=hQ
 have TR:Hid (∀ j,j<q.length->∀ ps,zrC S (q.take (j+1)).reverse ps=if j=0 then zgA S (tst q j) ps else zrC S (q.take j).reverse (zcP S (tst q j).near (zgA S (tst q j) ps))):=fun j hj ps=>by
  rw[zwW hj,zuA];simp only[List.length_reverse,List.length_take];by_cases e:j=0
  ·subst e;rfl
  ·rw[ya (by omega),ya e]
 have H0:Hid (zrC S q.reverse [(place:Int)]=zrC S (q.take q.length).reverse [(place:Int)]):=by show _=_;rw[List.take_length]
 have HP:Hid (zch S [(place:Int)]):=fun x hx=>⟨place,by simpa using hx,hp⟩;have HD:Hid (zeE S place q=decide (0<(zrC S q.reverse [(place:Int)]).length)):=rfl;generalize zeE S place q=R at *;generalize zrC S q.reverse [(place:Int)]=F at *;clear hS hQ wf;generalize hn:S.length=n at *;have HN:Hid _:=hn;clear hn;generalize hl:q.length=L at *;have HL:Hid _:=hl;clear hl
 go_enter Tryz.func201,Tryz.ntmps201
 go_wp2
 have c0:((w.alloc (.cells #[.slice a n c] 43)).alloc (.cells #[.int .i64 (place:Int)] 3)).cell? ⟨w.heap.size,0,none⟩=some (.slice a n c):=by go_simp
 have HO:Hid (((w.alloc (.cells #[.slice a n c] 43)).alloc (.cells #[.int .i64 (place:Int)] 3)).ownsRow (w.heap.size+1) 3 1 (.slice (some ⟨w.heap.size+1,0,none⟩) 1 1) ([(place:Int)]).length (([(place:Int)]).map (Value.int .i64))):=⟨by simp,Or.inr ⟨w.heap.size+1,1,#[.int .i64 (place:Int)],rfl,yj _,by
  have:=yK (w.alloc (.cells #[.slice a n c] 43)) (.cells #[.int .i64 (place:Int)] 3);simpa using this,by simp,by unfold maxLen;omega,by simp,by simp⟩⟩
 go_loopg [7,8] L (fun g1 s7 s8 wr=>∃ (j:Nat) (x:Int) (ps:List Int),j<=L/\j<=g1/\x=(j:Int)-1/\s8=.int .i64 x/\ps.length<=24/\Hid (Below w.heap.size w wr)/\wr.cell? ⟨w.heap.size,0,none⟩=some (.slice a n c)/\w.heap.size<wr.heap.size/\Hid (wr.ownsRow (w.heap.size+1) 3 1 s7 ps.length (ps.map (Value.int .i64)))/\Hid (zch S ps)/\Hid (F=zrC S (q.take j).reverse ps))
 case atStart=>exact⟨L,(L:Int)-1,[(place:Int)],yj _,yj _,rfl,rfl,by simp,zdD _ _ _,c0,by simp;omega,HO,HP,H0⟩
 case round =>
  obtain⟨j,x,ps,hj,g7,hx,rfl,e6,HB,cs,hs,a6,a7,HF⟩:=hrel;clear c0 HO HP H0;obtain⟨pa,pc,hv,I,U⟩:=zeh a6.out;have HI:Hid _:=I;have HK:Hid _:=U;clear I U;by_cases e3:j=0
  ·subst e3;have e9:x = -1:=(by omega);subst e9;clear hx
   have hR:R=decide (0<ps.length):=by
    rw[HD.out,HF.out];rfl
   have HR:Hid _:=hR;rw[hv];clear hR hv;generalize ps.length=d9 at *
   go_wp2
   go_ret;exact⟨by rw[HR.out];rfl,HB.out⟩
  ·obtain⟨i,rfl⟩:∃ i,j=i+1:=⟨j-1,by omega⟩;obtain rfl:x=(i:Int):=by omega
   clear hx;have g8:(i:Int)<(L:Int):=(by omega);obtain⟨qb,qo,rfl,q0,q1,q2⟩:=(HQ.out.below HB.out) i (by rw[HL.out];omega);have h8:=yd _ _ q0;have b2:=TR.out i (by omega) ps;have b0:Hid _:=b2;clear b2;have SI:Hid (∀ W,Below w.heap.size w W->wr.heap.size<W.heap.size->W.cell? ⟨w.heap.size,0,none⟩=some (.slice a n c)->W.cell? ⟨wr.heap.size,0,none⟩=some (.int .i64 (tst q i).t)->W.cell? ⟨wr.heap.size,1,none⟩=some (.int .i64 (tst q i).m)->W.cell? ⟨wr.heap.size,2,none⟩=some (.bool (tst q i).near)->W.ownsRow (w.heap.size+1) 3 1 (.slice pa ps.length pc) ps.length (ps.map (Value.int .i64))->Calls _ _ _ _ _):=fun W h1 h2 h3 h4 h5 h6 h7=>T.out (tst q i) wr.heap.size ps a7.out (.slice pa ps.length pc) W h1 h2 h3 h4 h5 h6 h7 (fun k hk=>by have:=HK.out k (by rw[hv];exact hk);omega);have OW:Hid (wr.ownsRow (w.heap.size+1) 3 1 (.slice pa ps.length pc) ps.length (ps.map (Value.int .i64))):=(by rw[<- hv];exact a6.out);have b1:Hid (zch S (zgA S (tst q i) ps)):=PN.out _ _ a7.out;rw[hv];clear hv a6 a7 HI HK T;have b7:(zgA S (tst q i) ps).length<=24:=yG (zsK _ _) e6;generalize b9:zgA S (tst q i) ps=D at *;generalize c7:tst q i=te at *;have g5:Hid _:=c7;clear b9 c7;generalize b3:ps.length=d9 at *;have g4:Hid _:=b3;clear b3;obtain⟨tt,tm,tn⟩:=te;dsimp only at *
   go_wp2_with fail
   refine ye (SI.out _ (HB.out.alloc HB.out.size _) (by simp) (by go_simp) (by go_simp) (by go_simp) (by go_simp) (OW.out.alloc _)) ?_;rintro e w2 ⟨v', rfl,b4,J,c6,a8,g0⟩;obtain⟨c8,c9,a9,E,_⟩:=zeh J;have t2:w2.cell? ⟨wr.heap.size,2,none⟩=some (.bool tn):=(c6 2).trans (by go_simp);have M:Hid _:=b4;have d7:Hid (w2.ownsRow (w.heap.size+1) 3 1 (.slice c8 D.length c9) D.length (D.map (Value.int .i64))):=(by rw[<- a9];exact J);have d6:Hid _:=E;simp only[yr] at g0;have e8:w.heap.size<w2.heap.size:=(by omega);have i0:wr.heap.size<w2.heap.size:=(by omega);clear b4 J E c6;rw[a9];clear a9;by_cases b5:i=0
   ·subst b5
    have a5:Hid (F=zrC S (q.take 0).reverse D):=by
     show _=_;rw[HF.out,b0.out,yb rfl];rfl
    go_wp2
    go_roundg 0
    case measure=>omega
    case rel=>exact⟨0,-1,D,by omega,by omega,rfl,by go_num,b7,M,a8,e8,d7,b1,a5⟩
   ·have g9:(0:Int)<(i:Int):=by omega
    have a5:Hid (F=zrC S (q.take i).reverse (zcP S tn D)):=by
     show _=_;rw[HF.out,b0.out,ya b5]
    have e0:Hid (zch S (zcP S tn D)):=PL.out _ _ b1.out;have AB:Hid _:=d4.out c8 c9 D tn w2 (HS.out.below M.out) (by omega) d6.out;generalize b8:D.length=g6 at *;clear b8
    go_wp2_with fail
    refine ye AB.out ?_;rintro e w3 ⟨v3,rfl,O,Z,e4⟩;have h9:=O.size;have e2:=(O.cell (yd _ _ a8)).trans a8;have d5:Hid (Below w.heap.size w w3):=M.out.trans (O.mono M.out.size);have d8:Hid (w3.ownsRow (w.heap.size+1) 3 1 v3 (zcP S tn D).length ((zcP S tn D).map (Value.int .i64))):=zfs Z (by omega);clear Z O
    go_wp2
    go_roundg i
    case measure=>omega
    case rel=>exact⟨i,(i:Int)-1,zcP S tn D,by omega,by omega,rfl,by go_num,by omega,d5,e2,by omega,d8,e0,a5⟩
def zAb(te:Tst):Bool:=(decide (te.t = -1000001) || decide (0<=te.t/\te.t<=99)) && (decide (te.m = -1000001) || decide (-1000000<=te.m/\te.m<=1000000))
theorem znr(te:Tst)(w:World) :
  yL 210 #[.agg #[.int .i64 te.t,.int .i64 te.m,.bool te.near]] w fun e w' => e=.returned (.bool (zAb te))/\Below w.heap.size w w' := by
 obtain⟨T,M,near⟩:=te;unfold zAb;dsimp only;have d1:=zaR T 0 99;have d2:=zaR M (-1000000) 1000000;generalize decide (0<=T/\T<=99)=F at *;generalize decide (-1000000<=M/\M<=1000000)=E at *;by_cases h1:T = -1000001
 ·subst h1;simp only[decide_true,Bool.true_or,Bool.true_and];by_cases D:M = -1000001
  ·subst D;simp only[decide_true,Bool.true_or]
   go_enter Tryz.func210,Tryz.ntmps210
   go_wp2
   go_ret;exact⟨rfl,(yk _ _).alloc (yj _) _⟩
  ·have I:(M == -1000001)=false:=beq_eq_false_iff_ne.2 D;simp only[yE D,Bool.false_or]
   cases E <;>
   ·go_enter Tryz.func210,Tryz.ntmps210
    go_wp2_with (go_at_call 66;refine(d2 _).mono ?_;rintro e w' ⟨rfl,rfl⟩)
    go_ret;exact⟨rfl,(yk _ _).alloc (yj _) _⟩
 ·have J:(T == -1000001)=false:=beq_eq_false_iff_ne.2 h1;simp only[yE h1,Bool.false_or]
  cases F with
  | false =>
   simp only[Bool.false_and]
   go_enter Tryz.func210,Tryz.ntmps210
   go_wp2_with (go_at_call 66;refine(d1 _).mono ?_;rintro e w' ⟨rfl,rfl⟩)
   go_ret;exact⟨rfl,(yk _ _).alloc (yj _) _⟩
  | true =>
   simp only[Bool.true_and];by_cases D:M = -1000001
   ·subst D;simp only[decide_true,Bool.true_or]
    go_enter Tryz.func210,Tryz.ntmps210
    go_wp2_with (go_at_call 66;refine(d1 _).mono ?_;rintro e w' ⟨rfl,rfl⟩)
    go_ret;exact⟨rfl,(yk _ _).alloc (yj _) _⟩
   ·have I:(M == -1000001)=false:=beq_eq_false_iff_ne.2 D;simp only[yE D,Bool.false_or]
    cases E <;>
    ·go_enter Tryz.func210,Tryz.ntmps210
     go_wp2_with (first|(go_at_call_of 66 (Value.int .i64 99);refine(d1 _).mono ?_;rintro e w' ⟨rfl,rfl⟩)|(go_at_call_of 66 (Value.int .i64 1000000);refine(d2 _).mono ?_;rintro e w' ⟨rfl,rfl⟩))
     go_ret;exact⟨rfl,(yk _ _).alloc (yj _) _⟩
def zeV:Nat->List Tst->Int
 | _,[]=>0
 | k,te :: r=>if zAb te then (if decide (k=0) && te.near then 3 else zeV (k+1) r) else 2
def zfw(q:List Tst):Int:=if decide (1<=(q.length:Int)/\(q.length:Int)<=6) then zeV 0 q else 1
theorem zvu{q:List Tst}{k:Nat}(h:k<q.length):q.drop k=tst q k :: q.drop (k+1):=zmB h
theorem zkT(qa:Option Addr)(qc:Nat)(q:List Tst)(w:World)(hq:q.length<=9223372036854775807)(hQ:zci w qa q) :
  yL 200 #[.slice qa q.length qc] w fun e w' => e=.returned (.int .i64 (zfw q))/\Below w.heap.size w w' := by
 have HQ:Hid (zci w qa q):=hQ;have d1:=zaR (q.length:Int) 1 6;have DR:Hid (∀ k,k<q.length->zeV k (q.drop k)=if zAb (tst q k) then (if decide (k=0) && (tst q k).near then 3 else zeV (k+1) (q.drop (k+1))) else 2):=fun k hk=>by rw[zvu hk];rfl
 have DE:Hid (zeV q.length (q.drop q.length)=0):=by show _=_;rw[List.drop_length];rfl
 unfold zfw;clear hQ;have H0:Hid (zeV 0 q=zeV 0 (q.drop 0)):=rfl;generalize zeV 0 q=E at *;generalize hl:q.length=L at *;have HL:Hid _:=hl;clear hl
 cases F:decide (1<=(L:Int)/\(L:Int)<=6) with
 | false =>
  rw[F] at d1;simp only[Bool.false_eq_true,if_false];clear F
  go_enter Tryz.func200,Tryz.ntmps200
  go_wp2_with (go_at_call 66;refine(d1 _).mono ?_;rintro e w' ⟨rfl,I⟩;have O:=I.symm;clear I;subst O)
  go_ret;exact⟨rfl,yk _ _⟩
 | true =>
  rw[F] at d1;simp only[if_true];clear F
  go_enter Tryz.func200,Tryz.ntmps200
  go_wp2_with (go_at_call 66;refine(d1 _).mono ?_;rintro e w' ⟨rfl,I⟩;have O:=I.symm;clear I;subst O)
  go_loopg [11] L (fun g1 s11 wr=>∃ k:Nat,k<=L/\L-k<=g1/\s11=.int .i64 k/\Below w.heap.size w wr/\Hid (E=zeV k (q.drop k)))
  case atStart=>exact⟨0,by omega,by omega,rfl,yk _ _,H0⟩
  case round =>
   obtain⟨k,hk,a7,rfl,F,T⟩:=hrel;by_cases a5:k<L
   ·have a6:(k:Int)<(L:Int):=(by omega);obtain⟨qb,qo,rfl,q0,q1,q2⟩:=(HQ.out.below F) k (by rw[HL.out];exact a5);have a9:=yd _ _ q0;have DK:=DR.out k (by omega);have d2:=fun W=>znr (tst q k) W;generalize tst q k=te at *;generalize zAb te=ok at *;obtain⟨tt,tm,tn⟩:=te;dsimp only at *;have M:Hid _:=DK;clear DK
    cases ok with
    | false =>
     have J:Hid (E=2):=by show _=_;rw[T.out,M.out];rfl
     go_wp2_with (go_at_call 210;refine(d2 _).mono ?_;rintro e Z ⟨rfl,D⟩)
     go_ret;exact⟨by rw[J.out];rfl,F.trans (((yk _ _).alloc (yj _) _ |>.trans (D.mono (by simp))).mono F.size)⟩
    | true =>
     by_cases U:k=0
     ·subst U;simp only[Nat.zero_mul,Nat.add_zero] at q0 q1 q2
      cases tn with
      | true =>
       have J:Hid (E=3):=by show _=_;rw[T.out,M.out];rfl
       go_wp2_with (go_at_call 210;refine(d2 _).mono ?_;rintro e Z ⟨rfl,D⟩;simp only[yr] at D;have c2:Z.cell? ⟨wr.heap.size,2,none⟩=some (.bool true):=(D.cell (by simp)).trans (by go_simp))
       go_ret;exact⟨by rw[J.out];rfl,F.trans (((yk _ _).alloc (yj _) _ |>.trans (D.mono (by omega))).mono F.size)⟩
      | false =>
       have J:Hid (E=zeV (0+1) (q.drop (0+1))):=by show _=_;rw[T.out,M.out];rfl
       go_wp2_with (go_at_call 210;refine(d2 _).mono ?_;rintro e Z ⟨rfl,D⟩;simp only[yr] at D;have c2:Z.cell? ⟨wr.heap.size,2,none⟩=some (.bool false):=(D.cell (by simp)).trans (by go_simp))
       go_roundg (L-1)
       case measure=>omega
       case rel=>exact⟨0+1,by omega,by omega,by go_num,F.trans (((yk _ _).alloc (yj _) _ |>.trans (D.mono (by omega))).mono F.size),J⟩
     ·have a8:((k:Int) == 0)=false:=beq_eq_false_iff_ne.2 (by omega)
      have J:Hid (E=zeV (k+1) (q.drop (k+1))):=by
       show _=_;rw[T.out,M.out,yE U];rfl
      go_wp2_with (go_at_call 210;refine(d2 _).mono ?_;rintro e Z ⟨rfl,D⟩)
      go_roundg (L-(k+1))
      case measure=>omega
      case rel=>exact⟨k+1,by omega,by omega,by go_num,F.trans (((yk _ _).alloc (yj _) _ |>.trans (D.mono (by simp))).mono F.size),J⟩
   ·have:k=L:=(by omega);subst this;have J:Hid (E=0):=by show _=_;rw[T.out,<- HL.out];rw[<- HL.out] at DE;exact DE.out
    go_wp2
    go_ret;exact⟨by rw[J.out];rfl,F⟩
theorem zyn:(Tryz.prog.info? 254).map (fun i=>(i.zero,i.size,i.bytes))=some (some (.agg #[.int .i64 0,.int .i64 0,.slice none 0 0]),3,40):=by kernel_rfl
def zgz(s:Slt)(v:Value):List Value:=[.int .i64 s.pl,.int .i64 s.num,v]
def zim(L:List Slt)(K:Nat->Value):List Value:=(List.range L.length).flatMap fun i=>zgz (slt L i) (K i)
theorem zpM{L:List Slt}{s:Slt}{i:Nat}(h:i<L.length):slt (L++[s]) i=slt L i:=by
 rw[zeM (by simp;omega),zeM h,List.getElem_append_left h]
theorem zpL(L:List Slt)(s:Slt):slt (L++[s]) L.length=s:=by
 rw[zeM (by simp)];simp
theorem zoO(L:List Slt)(K:Nat->Value)(s:Slt)(v:Value):zim L K++zgz s v=zim (L++[s]) (fun i=>if i=L.length then v else K i):=by
 unfold zim;rw[List.length_append,List.length_singleton,List.range_succ,List.flatMap_append]
 congr 1
 ·refine zkg (fun x E=>?_);have D:=List.mem_range.1 E;have:x≠L.length:=by omega
  simp only[ya this];rw[zpM D]
 ·simp[zpL]
def zir(B:Nat)(L:List Slt)(K:Nat->Value)(v:Value)(w:World):Prop :=
 w.ownsRow B 254 3 v L.length (zim L K)/\∀ i,i<L.length->w.ownsRow B 3 1 (K i) (slt L i).gv.length ((slt L i).gv.map (Value.int .i64))
theorem zir.other{B:Nat}{L:List Slt}{K:Nat->Value}{v:Value}{w w' : World}(h:zir B L K v w)(E:∀ b,B<=b->b<w.heap.size->w'.heap[b]?=w.heap[b]?):zir B L K v w' :=
 ⟨zaJ h.1 (fun k D=>E k (h.1.lt k D).1 (h.1.lt k D).2),fun i hi=>zaJ (h.2 i hi) (fun k D=>E k ((h.2 i hi).lt k D).1 ((h.2 i hi).lt k D).2)⟩
theorem zir.below{B:Nat}{L:List Slt}{K:Nat->Value}{v:Value}{w w' : World}(h:zir B L K v w)(E:Below w.heap.size w w'):zir B L K v w' := h.other (fun b _ D=>E.block b D)
theorem zir.base{B B' : Nat}{L:List Slt}{K:Nat->Value}{v:Value}{w:World}(h:zir B L K v w)(D:B' <= B):zir B' L K v w:=⟨zaV h.1 D,fun i hi=>zaV (h.2 i hi) D⟩
theorem zfO(L:List Slt)(K:Nat->Value):∀ q,((List.range q).flatMap fun i=>zgz (slt L i) (K i)).length=q*3
 | 0=>rfl
 | q+1=>by rw[List.range_succ,List.flatMap_append,List.length_append,zfO L K q];simp[zgz];omega
theorem zjC(L:List Slt)(K:Nat->Value){i j:Nat}(D:j<3):∀ {q:Nat},i<q->((List.range q).flatMap fun i=>zgz (slt L i) (K i))[i*3+j]?=(zgz (slt L i) (K i))[j]?
 | 0,hi=>by omega
 | q+1,hi=>by
  rw[List.range_succ,List.flatMap_append];by_cases e:i<q
  ·rw[List.getElem?_append_left (by rw[zfO];omega)];exact zjC L K D e
  ·have:i=q:=(by omega);subst this;rw[List.getElem?_append_right (by rw[zfO];omega),zfO,show i*3+j-i*3=j by omega];simp
theorem zir.slts{B:Nat}{L:List Slt}{K:Nat->Value}{v:Value}{w:World}(h:zir B L K v w):∃ a c,v=.slice a L.length c/\zfS w a L:=by
 obtain⟨E,O⟩:=h;have D:=E;obtain⟨hl,h⟩:=E;rcases h with ⟨rfl,h0⟩ |⟨g,cap,F,rfl,hb,hg,h1,T,U,Z⟩
 ·exact⟨none,0,by rw[h0],fun i hi=>by omega⟩
 ·refine⟨some ⟨g,0,none⟩,cap,rfl,fun i hi=>⟨g,0,rfl,?_⟩⟩
  have hc:∀ j,j<3->w.cell? ⟨g,i*3+j,none⟩=(zgz (slt L i) (K i))[j]?:=fun j M=>by
   rw[<- zjC L K M hi];exact D.cellAt (i*3+j) (by omega)
  obtain⟨sa,sc,I,J⟩:=zfJ (O i hi);rw[yz];refine⟨hc 0 (by omega),hc 1 (by omega),sa,sc,?_,J⟩;rw[hc 2 (by omega),I];rfl
theorem zir.step{wr wp w3:World}{B:Nat}{L:List Slt}{K:Nat->Value}{v v1 v2:Value}{s:Slt}{o3:Obj}(I:zir B L K v wr)(hB:B<=wr.heap.size)(hs:wr.heap.size<=wp.heap.size)
  (e:∀ k,k<wr.heap.size->wp.heap[k]?=wr.heap[k]?) (E:wp.ownsRow wr.heap.size 3 1 v1 s.gv.length (s.gv.map (Value.int .i64)))
  (h3:(wp.alloc o3).grownBy w3 v.ownBlock) (M:w3.ownsRow B 254 3 v2 (L.length+1) (zim L K++zgz s v1)) :
  zir B (L++[s]) (fun i=>if i=L.length then v1 else K i) v2 w3:=by
 obtain⟨Z,D⟩:=I
 have T:∀ k,k<wp.heap.size->v.ownBlock≠some k->w3.heap[k]?=wp.heap[k]?:=fun k D O =>
  (h3.block k (by simp;omega) (fun e=>O e.symm)).trans (Below.heap_alloc _ _ _ D)
 refine⟨?_,fun i hi=>?_⟩
 ·rw[<- zoO,List.length_append,List.length_singleton];exact M
 ·rw[List.length_append,List.length_singleton] at hi;by_cases U:i=L.length
  ·subst U;simp only[if_true];rw[zpL];refine zaJ (zaV E hB) (fun k D=>?_);have hl:=E.lt k D;exact T k hl.2 (fun ek=>by have:=(Z.lt k ek).2;omega)
  ·simp only[ya U];have J:i<L.length:=(by omega);rw[zpM J];have F:=D i J;refine zaJ F (fun k D=>?_);have hl:=F.lt k D;exact(T k (by omega) (zei F Z (by decide) k D)).trans (e k hl.2)
theorem ztG{W:World}{b:Nat}{s:Slt}{v:Value}(c0:W.cell? ⟨b,0,none⟩=some (.int .i64 s.pl))(c1:W.cell? ⟨b,1,none⟩=some (.int .i64 s.num))(c2:W.cell? ⟨b,2,none⟩=some v):∀ j u,(zgz s v)[j]?=some u->W.cell? ((⟨b,0,none⟩:Addr).add j)=some u:=fun j u D=>by
 unfold zgz at D;rw[Addr.add_lit]
 match j,D with
 | 0,D=>cases D;exact c0
 | 1,D=>cases D;exact c1
 | 2,D=>cases D;exact c2
theorem zxu{s:Slt}{a:Option Addr}{n c:Nat}:∀ u ∈ zgz s (.slice a n c),u.oneCell' = true:=fun u D=>by
 unfold zgz at D;simp at D;rcases D with rfl|rfl|rfl <;> rfl
theorem zrx(a:Option Addr)(c:Nat)(S:List Nd)(H:Int)(w:World)(O:S.length<=9223372036854775807)(F:zah w a S)(J:zbY S H = -1) :
  yL 214 #[.agg #[.slice a S.length c],.int .i64 H] w fun e w' => e=.returned (.slice none 0 0)/\Below w.heap.size w w' := by
 have d:=fun(W:World) (T:zah W a S)=>zdo a c S H W O T;rw[J] at d;have D:Hid _:=d;have M:Hid (zah w a S):=F;clear d F J;generalize S.length=n at *
 go_enter Tryz.func214,Tryz.ntmps214
 go_wp2_with fail
 refine ye (D.out _ (M.out.below ((yk _ _).alloc (yj _) _))) ?_;rintro e w1 ⟨rfl,I⟩;have E:Hid (Below w.heap.size w w1):=((yk _ _).alloc (yj _) _).trans (I.mono (by simp));clear I
 go_wp2_with fail
 go_ret;exact⟨rfl,E.out⟩
end Go.Proofs.YtcbcpomacdngmaaGreat
