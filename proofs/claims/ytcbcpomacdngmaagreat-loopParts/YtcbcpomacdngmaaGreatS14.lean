/-
  x
-/
import Derived.Test.YtcbcpomacdngmaaGreatS13
namespace Go.Proofs.YtcbcpomacdngmaaGreat
set_option maxRecDepth 100000
set_option maxHeartbeats 4000000
set_option linter.unusedVariables false
open Go.RowKit
def tst(q:List Tst)(i:Nat):Tst:=q.getD i ⟨0,0,false⟩
def zch(w:World)(a:Option Addr)(q:List Tst):Prop :=
 ∀ i,i<q.length->∃ b o,a=some ⟨b,o,none⟩/\w.cell? ⟨b,o+i*3,none⟩=some (.int .i64 (tst q i).t)/\w.cell? ⟨b,o+i*3+1,none⟩=some (.int .i64 (tst q i).m)/\w.cell? ⟨b,o+i*3+2,none⟩=some (.bool (tst q i).near)
theorem zch.below{w w' : World}{a:Option Addr}{q:List Tst}(h:zch w a q)(D:Below w.heap.size w w'):zch w' a q:=fun i hi=>by
 obtain⟨b,o,e,h1,E,F⟩:=h i hi;exact⟨b,o,e,(D.cell (yd w ⟨b,o+i*3,none⟩ h1)).trans h1,(D.cell (yd w ⟨b,o+i*3+1,none⟩ E)).trans E,(D.cell (yd w ⟨b,o+i*3+2,none⟩ F)).trans F⟩
theorem zxm{q:List Tst}{j:Nat}(h:j<q.length):(q.take (j+1)).reverse=tst q j ::(q.take j).reverse:=by
 rw[List.take_add_one,List.getElem?_eq_getElem h,List.reverse_append];unfold tst;rw[zae q _ h];rfl
theorem zuR{S:List Nd}{te:Tst}{l:List Tst}{ps:List Int}:zrS S (te :: l) ps=if l.length=0 then zgD S te ps else zrS S l (zcN S te.near (zgD S te ps)):=by
 cases l with
 | nil=>rfl
 | cons D r=>rfl
theorem zrL(S:List Nd)(a:Option Addr)(c:Nat)(te:Tst)(w:World)(hS:zai w a S)(D:Nat)(ps:List Int)(b4:zcg S ps)(v:Value)(W:World)(hb:Below w.heap.size w W)(U:D<W.heap.size)(cs:W.cell? ⟨w.heap.size,0,none⟩=some (.slice a S.length c))(t0:W.cell? ⟨D,0,none⟩=some (.int .i64 te.t))(t1:W.cell? ⟨D,1,none⟩=some (.int .i64 te.m))(t2:W.cell? ⟨D,2,none⟩=some (.bool te.near))
  (I:W.ownsRow (w.heap.size+1) 3 1 v ps.length (ps.map (Value.int .i64))) (b0:∀ k,v.ownBlock=some k->k≠D) :
  yM 197 #[v,.func (.func 211) #[] #[.pointer (some ⟨D,0,none⟩),.pointer (some ⟨w.heap.size,0,none⟩)]] W fun e w' => ∃ v', e=.returned v' /\ Below w.heap.size w w' /\ w'.ownsRow (w.heap.size+1) 3 1 v' (zgD S te ps).length ((zgD S te ps).map (Value.int .i64))/\(∀ o,w'.cell? ⟨D,o,none⟩=W.cell? ⟨D,o,none⟩)/\w'.cell? ⟨w.heap.size,0,none⟩=some (.slice a S.length c)/\W.heap.size<=w'.heap.size:=by
 have eg:=yK Tryz.func211 (by kernel_rfl) rfl;rcases I.2 with ⟨e,e0⟩ |⟨g,cap,b5,e,hg,Z,h3,h4,h5,h6⟩
 ·subst e;have a5:ps=[]:=List.length_eq_zero_iff.1 e0;subst a5;refine(zkf _ _ W eg).mono ?_;rintro e w' ⟨rfl,E⟩;exact⟨_,rfl,hb.trans (E.mono hb.size),World.ownsRow_nil _ _ _ _,fun o=>E.cell (by exact U),(E.cell (yd _ _ cs)).trans cs,E.size⟩
 ·subst e;have a9:g≠D:=b0 g rfl;have b6:g<W.heap.size:=(Array.getElem?_eq_some_iff.1 Z).1;have M:cap<=9223372036854775807:=by unfold maxLen at h4;omega
  obtain⟨_,_,_,_,G,hG,a8⟩:=zla I
  have a6:∀ J,Off (fun b=>b=g) W J->Below w.heap.size w J/\(∀ o,J.cell? ⟨D,o,none⟩=W.cell? ⟨D,o,none⟩)/\J.cell? ⟨w.heap.size,0,none⟩=some (.slice a S.length c):=fun J h1 =>
   ⟨hb.trans (h1.below hb.size (fun k hk=>by omega)),fun o=>h1.cell (by exact U) (fun e=>a9 (by simpa using e.symm)),(h1.cell (yd _ _ cs) (fun e=>by simp at e;omega)).trans cs⟩
  refine(zlw 211 _ (fun x=>!zxn te.t te.m (nd S x.toNat)) g ps.length cap ps G W rfl h3 M hG a8 eg (fun x hx J h1=>?_)).mono ?_
  ·obtain⟨k,rfl,hk⟩:=b4 x hx;obtain⟨b1,O,b3⟩:=a6 J h1;have:=zxg a c S te.t te.m te.near D w.heap.size k J hk (hS.below b1) ((O 0).trans t0) ((O 1).trans t1) ((O 2).trans t2) b3;rw[yi];exact this
  ·rintro e w' ⟨rfl,F,G', a7,T⟩;obtain⟨b1,O,b3⟩:=a6 w' F;refine⟨_,rfl,b1,zkS a7 T (yH (zsZ _ _) h3) h4 hg,O,b3,F.size⟩
theorem zwr(a:Option Addr)(c:Nat)(S:List Nd)(place:Nat)(qa:Option Addr)(qc:Nat)(q:List Tst)(w:World)(wf:WF S)(hp:place<S.length)(hS:zai w a S)(hq:q.length<=6)(hQ:zch w qa q) :
  yM 201 #[.agg #[.slice a S.length c],.int .i64 (place:Int),.slice qa q.length qc] w fun e w' => e=.returned (.bool (zeG S place q))/\Below w.heap.size w w' := by
 have hN:=wf.small;have T:Hid (∀ (te:Tst) bt ps,zcg S ps->∀ v W,Below w.heap.size w W->bt<W.heap.size->W.cell? ⟨w.heap.size,0,none⟩=some (.slice a S.length c)->W.cell? ⟨bt,0,none⟩=some (.int .i64 te.t)->W.cell? ⟨bt,1,none⟩=some (.int .i64 te.m)->W.cell? ⟨bt,2,none⟩=some (.bool te.near)->W.ownsRow (w.heap.size+1) 3 1 v ps.length (ps.map (Value.int .i64))->(∀ k,v.ownBlock=some k->k≠bt)->Calls _ _ _ _ _):=fun te bt ps e7 v W hb e1 cs t0 t1 t2 b6 e5=>zrL S a c te w hS bt ps e7 v W hb e1 cs t0 t1 t2 b6 e5;have d4:Hid (∀ pa pc places near W,zai W a S->places.length<=1000000->zaj W pa places->Calls _ _ _ _ _):=fun pa pc places near W hW hL hP=>zsm a c S pa pc places near W hN hW hL hP;have PL:Hid (∀ near ps,zcg S ps->zcg S (zcN S near ps)):=fun near ps h=>(ztL wf near h).1;have PN:Hid (∀ te ps,zcg S ps->zcg S (zgD S te ps)):=fun te ps h=>h.sift;have HS:Hid (zai w a S):=hS;have HQ:Hid (zch w qa q):=hQ
 have TR:Hid (∀ j,j<q.length->∀ ps,zrS S (q.take (j+1)).reverse ps=if j=0 then zgD S (tst q j) ps else zrS S (q.take j).reverse (zcN S (tst q j).near (zgD S (tst q j) ps))):=fun j hj ps=>by
  rw[zxm hj,zuR];simp only[List.length_reverse,List.length_take];by_cases e:j=0
  ·subst e;rfl
  ·rw[ya (by omega),ya e]
 have H0:Hid (zrS S q.reverse [(place:Int)]=zrS S (q.take q.length).reverse [(place:Int)]):=by show _=_;rw[List.take_length]
 have HP:Hid (zcg S [(place:Int)]):=fun x hx=>⟨place,by simpa using hx,hp⟩;have HD:Hid (zeG S place q=decide (0<(zrS S q.reverse [(place:Int)]).length)):=rfl;generalize zeG S place q=R at *;generalize zrS S q.reverse [(place:Int)]=F at *;clear hS hQ wf;generalize hn:S.length=n at *;have HN:Hid _:=hn;clear hn;generalize hl:q.length=L at *;have HL:Hid _:=hl;clear hl
 go_enter Tryz.func201,Tryz.ntmps201
 go_wp2
 have c0:((w.alloc (.cells #[.slice a n c] 43)).alloc (.cells #[.int .i64 (place:Int)] 3)).cell? ⟨w.heap.size,0,none⟩=some (.slice a n c):=by go_simp
 have HO:Hid (((w.alloc (.cells #[.slice a n c] 43)).alloc (.cells #[.int .i64 (place:Int)] 3)).ownsRow (w.heap.size+1) 3 1 (.slice (some ⟨w.heap.size+1,0,none⟩) 1 1) ([(place:Int)]).length (([(place:Int)]).map (Value.int .i64))):=⟨by simp,Or.inr ⟨w.heap.size+1,1,#[.int .i64 (place:Int)],rfl,yj _,by
  have:=yL (w.alloc (.cells #[.slice a n c] 43)) (.cells #[.int .i64 (place:Int)] 3);simpa using this,by simp,by unfold maxLen;omega,by simp,by simp⟩⟩
 go_loopg [7,8] L (fun g1 s7 s8 wr=>∃ (j:Nat) (x:Int) (ps:List Int),j<=L/\j<=g1/\x=(j:Int)-1/\s8=.int .i64 x/\ps.length<=24/\Hid (Below w.heap.size w wr)/\wr.cell? ⟨w.heap.size,0,none⟩=some (.slice a n c)/\w.heap.size<wr.heap.size/\Hid (wr.ownsRow (w.heap.size+1) 3 1 s7 ps.length (ps.map (Value.int .i64)))/\Hid (zcg S ps)/\Hid (F=zrS S (q.take j).reverse ps))
 case atStart=>exact⟨L,(L:Int)-1,[(place:Int)],yj _,yj _,rfl,rfl,by simp,zbr _ _ _,c0,by simp;omega,HO,HP,H0⟩
 case round =>
  obtain⟨j,x,ps,hj,g7,hx,rfl,e6,HB,cs,hs,a6,a7,HF⟩:=hrel;clear c0 HO HP H0;obtain⟨pa,pc,hv,I,U⟩:=zei a6.out;have HI:Hid _:=I;have HK:Hid _:=U;clear I U;by_cases e3:j=0
  ·subst e3;have e9:x = -1:=(by omega);subst e9;clear hx
   have hR:R=decide (0<ps.length):=by
    rw[HD.out,HF.out];rfl
   have HR:Hid _:=hR;rw[hv];clear hR hv;generalize ps.length=d9 at *
   go_wp2
   go_ret;exact⟨by rw[HR.out];rfl,HB.out⟩
  ·obtain⟨i,rfl⟩:∃ i,j=i+1:=⟨j-1,by omega⟩;obtain rfl:x=(i:Int):=by omega
   clear hx;have g8:(i:Int)<(L:Int):=(by omega);obtain⟨qb,qo,rfl,q0,q1,q2⟩:=(HQ.out.below HB.out) i (by rw[HL.out];omega);have h8:=yd _ _ q0;have b2:=TR.out i (by omega) ps;have b0:Hid _:=b2;clear b2;have SI:Hid (∀ W,Below w.heap.size w W->wr.heap.size<W.heap.size->W.cell? ⟨w.heap.size,0,none⟩=some (.slice a n c)->W.cell? ⟨wr.heap.size,0,none⟩=some (.int .i64 (tst q i).t)->W.cell? ⟨wr.heap.size,1,none⟩=some (.int .i64 (tst q i).m)->W.cell? ⟨wr.heap.size,2,none⟩=some (.bool (tst q i).near)->W.ownsRow (w.heap.size+1) 3 1 (.slice pa ps.length pc) ps.length (ps.map (Value.int .i64))->Calls _ _ _ _ _):=fun W h1 h2 h3 h4 h5 h6 h7=>T.out (tst q i) wr.heap.size ps a7.out (.slice pa ps.length pc) W h1 h2 h3 h4 h5 h6 h7 (fun k hk=>by have:=HK.out k (by rw[hv];exact hk);omega);have OW:Hid (wr.ownsRow (w.heap.size+1) 3 1 (.slice pa ps.length pc) ps.length (ps.map (Value.int .i64))):=(by rw[<- hv];exact a6.out);have b1:Hid (zcg S (zgD S (tst q i) ps)):=PN.out _ _ a7.out;rw[hv];clear hv a6 a7 HI HK T;have b7:(zgD S (tst q i) ps).length<=24:=yH (zsZ _ _) e6;generalize b9:zgD S (tst q i) ps=D at *;generalize c7:tst q i=te at *;have g5:Hid _:=c7;clear b9 c7;generalize b3:ps.length=d9 at *;have g4:Hid _:=b3;clear b3;obtain⟨tt,tm,tn⟩:=te;dsimp only at *
   go_wp2_with fail
   refine ye (SI.out _ (HB.out.alloc HB.out.size _) (by simp) (by go_simp) (by go_simp) (by go_simp) (by go_simp) (OW.out.alloc _)) ?_;rintro e w2 ⟨v', rfl,b4,J,c6,a8,g0⟩;obtain⟨c8,c9,a9,E,_⟩:=zei J;have t2:w2.cell? ⟨wr.heap.size,2,none⟩=some (.bool tn):=(c6 2).trans (by go_simp);have M:Hid _:=b4;have d7:Hid (w2.ownsRow (w.heap.size+1) 3 1 (.slice c8 D.length c9) D.length (D.map (Value.int .i64))):=(by rw[<- a9];exact J);have d6:Hid _:=E;simp only[yr] at g0;have e8:w.heap.size<w2.heap.size:=(by omega);have i0:wr.heap.size<w2.heap.size:=(by omega);clear b4 J E c6;rw[a9];clear a9;by_cases b5:i=0
   ·subst b5
    have a5:Hid (F=zrS S (q.take 0).reverse D):=by
     show _=_;rw[HF.out,b0.out,yb rfl];rfl
    go_wp2
    go_roundg 0
    case measure=>omega
    case rel=>exact⟨0,-1,D,by omega,by omega,rfl,by go_num,b7,M,a8,e8,d7,b1,a5⟩
   ·have g9:(0:Int)<(i:Int):=by omega
    have a5:Hid (F=zrS S (q.take i).reverse (zcN S tn D)):=by
     show _=_;rw[HF.out,b0.out,ya b5]
    have e0:Hid (zcg S (zcN S tn D)):=PL.out _ _ b1.out;have AB:Hid _:=d4.out c8 c9 D tn w2 (HS.out.below M.out) (by omega) d6.out;generalize b8:D.length=g6 at *;clear b8
    go_wp2_with fail
    refine ye AB.out ?_;rintro e w3 ⟨v3,rfl,O,Z,e4⟩;have h9:=O.size;have e2:=(O.cell (yd _ _ a8)).trans a8;have d5:Hid (Below w.heap.size w w3):=M.out.trans (O.mono M.out.size);have d8:Hid (w3.ownsRow (w.heap.size+1) 3 1 v3 (zcN S tn D).length ((zcN S tn D).map (Value.int .i64))):=zfx Z (by omega);clear Z O
    go_wp2
    go_roundg i
    case measure=>omega
    case rel=>exact⟨i,(i:Int)-1,zcN S tn D,by omega,by omega,rfl,by go_num,by omega,d5,e2,by omega,d8,e0,a5⟩
def zAx(te:Tst):Bool:=(decide (te.t = -1000001) || decide (0<=te.t/\te.t<=99)) && (decide (te.m = -1000001) || decide (-1000000<=te.m/\te.m<=1000000))
theorem znv(te:Tst)(w:World) :
  yM 210 #[.agg #[.int .i64 te.t,.int .i64 te.m,.bool te.near]] w fun e w' => e=.returned (.bool (zAx te))/\Below w.heap.size w w' := by
 obtain⟨T,M,near⟩:=te;unfold zAx;dsimp only;have d1:=zaR T 0 99;have d2:=zaR M (-1000000) 1000000;generalize decide (0<=T/\T<=99)=F at *;generalize decide (-1000000<=M/\M<=1000000)=E at *;by_cases h1:T = -1000001
 ·subst h1;simp only[decide_true,Bool.true_or,Bool.true_and];by_cases D:M = -1000001
  ·subst D;simp only[decide_true,Bool.true_or]
   go_enter Tryz.func210,Tryz.ntmps210
   go_wp2
   go_ret;exact⟨rfl,(yk _ _).alloc (yj _) _⟩
  ·have I:(M == -1000001)=false:=beq_eq_false_iff_ne.2 D;simp only[yF D,Bool.false_or]
   cases E <;>
   ·go_enter Tryz.func210,Tryz.ntmps210
    go_wp2_with (go_at_call 66;refine(d2 _).mono ?_;rintro e w' ⟨rfl,rfl⟩)
    go_ret;exact⟨rfl,(yk _ _).alloc (yj _) _⟩
 ·have J:(T == -1000001)=false:=beq_eq_false_iff_ne.2 h1;simp only[yF h1,Bool.false_or]
  cases F with
  | false =>
   simp only[Bool.false_and]
   go_enter Tryz.func210,Tryz.ntmps210
   go_wp2_with (go_at_call 66;refine(d1 _).mono ?_;rintro e w' ⟨rfl,rfl⟩)
   go_ret;exact⟨rfl,(yk _ _).alloc (yj _) _⟩
  | true =>
   simp only[Bool.true_and];by_cases D:M = -1000001
   ·subst D;simp only[decide_true,Bool.true_or]
    go_enter Tryz.func210,Tryz.ntmps210
    go_wp2_with (go_at_call 66;refine(d1 _).mono ?_;rintro e w' ⟨rfl,rfl⟩)
    go_ret;exact⟨rfl,(yk _ _).alloc (yj _) _⟩
   ·have I:(M == -1000001)=false:=beq_eq_false_iff_ne.2 D;simp only[yF D,Bool.false_or]
    cases E <;>
    ·go_enter Tryz.func210,Tryz.ntmps210
     go_wp2_with (first|(go_at_call_of 66 (Value.int .i64 99);refine(d1 _).mono ?_;rintro e w' ⟨rfl,rfl⟩)|(go_at_call_of 66 (Value.int .i64 1000000);refine(d2 _).mono ?_;rintro e w' ⟨rfl,rfl⟩))
     go_ret;exact⟨rfl,(yk _ _).alloc (yj _) _⟩
def zeV:Nat->List Tst->Int
 | _,[]=>0
 | k,te :: r=>if zAx te then (if decide (k=0) && te.near then 3 else zeV (k+1) r) else 2
def zfz(q:List Tst):Int:=if decide (1<=(q.length:Int)/\(q.length:Int)<=6) then zeV 0 q else 1
theorem zvK{q:List Tst}{k:Nat}(h:k<q.length):q.drop k=tst q k :: q.drop (k+1):=zmB h
theorem zkW(qa:Option Addr)(qc:Nat)(q:List Tst)(w:World)(hq:q.length<=9223372036854775807)(hQ:zch w qa q) :
  yM 200 #[.slice qa q.length qc] w fun e w' => e=.returned (.int .i64 (zfz q))/\Below w.heap.size w w' := by
 have HQ:Hid (zch w qa q):=hQ;have d1:=zaR (q.length:Int) 1 6;have DR:Hid (∀ k,k<q.length->zeV k (q.drop k)=if zAx (tst q k) then (if decide (k=0) && (tst q k).near then 3 else zeV (k+1) (q.drop (k+1))) else 2):=fun k hk=>by rw[zvK hk];rfl
 have DE:Hid (zeV q.length (q.drop q.length)=0):=by show _=_;rw[List.drop_length];rfl
 unfold zfz;clear hQ;have H0:Hid (zeV 0 q=zeV 0 (q.drop 0)):=rfl;generalize zeV 0 q=E at *;generalize hl:q.length=L at *;have HL:Hid _:=hl;clear hl
 cases F:decide (1<=(L:Int)/\(L:Int)<=6) with
 | false =>
  rw[F] at d1;simp only[Bool.false_eq_true,if_false];clear F
  go_enter Tryz.func200,Tryz.ntmps200
  go_wp2_with (go_at_call 66;refine(d1 _).mono ?_;rintro e w' ⟨rfl,I⟩;have O:=I.symm;clear I;subst O)
  go_ret;exact⟨rfl,yk _ _⟩
 | true =>
  rw[F] at d1;simp only[if_true];clear F
  go_enter Tryz.func200,Tryz.ntmps200
  go_wp2_with (go_at_call 66;refine(d1 _).mono ?_;rintro e w' ⟨rfl,I⟩;have O:=I.symm;clear I;subst O)
  go_loopg [11] L (fun g1 s11 wr=>∃ k:Nat,k<=L/\L-k<=g1/\s11=.int .i64 k/\Below w.heap.size w wr/\Hid (E=zeV k (q.drop k)))
  case atStart=>exact⟨0,by omega,by omega,rfl,yk _ _,H0⟩
  case round =>
   obtain⟨k,hk,a7,rfl,F,T⟩:=hrel;by_cases a5:k<L
   ·have a6:(k:Int)<(L:Int):=(by omega);obtain⟨qb,qo,rfl,q0,q1,q2⟩:=(HQ.out.below F) k (by rw[HL.out];exact a5);have a9:=yd _ _ q0;have DK:=DR.out k (by omega);have d2:=fun W=>znv (tst q k) W;generalize tst q k=te at *;generalize zAx te=ok at *;obtain⟨tt,tm,tn⟩:=te;dsimp only at *;have M:Hid _:=DK;clear DK
    cases ok with
    | false =>
     have J:Hid (E=2):=by show _=_;rw[T.out,M.out];rfl
     go_wp2_with (go_at_call 210;refine(d2 _).mono ?_;rintro e Z ⟨rfl,D⟩)
     go_ret;exact⟨by rw[J.out];rfl,F.trans (((yk _ _).alloc (yj _) _ |>.trans (D.mono (by simp))).mono F.size)⟩
    | true =>
     by_cases U:k=0
     ·subst U;simp only[Nat.zero_mul,Nat.add_zero] at q0 q1 q2
      cases tn with
      | true =>
       have J:Hid (E=3):=by show _=_;rw[T.out,M.out];rfl
       go_wp2_with (go_at_call 210;refine(d2 _).mono ?_;rintro e Z ⟨rfl,D⟩;simp only[yr] at D;have c2:Z.cell? ⟨wr.heap.size,2,none⟩=some (.bool true):=(D.cell (by simp)).trans (by go_simp))
       go_ret;exact⟨by rw[J.out];rfl,F.trans (((yk _ _).alloc (yj _) _ |>.trans (D.mono (by omega))).mono F.size)⟩
      | false =>
       have J:Hid (E=zeV (0+1) (q.drop (0+1))):=by show _=_;rw[T.out,M.out];rfl
       go_wp2_with (go_at_call 210;refine(d2 _).mono ?_;rintro e Z ⟨rfl,D⟩;simp only[yr] at D;have c2:Z.cell? ⟨wr.heap.size,2,none⟩=some (.bool false):=(D.cell (by simp)).trans (by go_simp))
       go_roundg (L-1)
       case measure=>omega
       case rel=>exact⟨0+1,by omega,by omega,by go_num,F.trans (((yk _ _).alloc (yj _) _ |>.trans (D.mono (by omega))).mono F.size),J⟩
     ·have a8:((k:Int) == 0)=false:=beq_eq_false_iff_ne.2 (by omega)
      have J:Hid (E=zeV (k+1) (q.drop (k+1))):=by
       show _=_;rw[T.out,M.out,yF U];rfl
      go_wp2_with (go_at_call 210;refine(d2 _).mono ?_;rintro e Z ⟨rfl,D⟩)
      go_roundg (L-(k+1))
      case measure=>omega
      case rel=>exact⟨k+1,by omega,by omega,by go_num,F.trans (((yk _ _).alloc (yj _) _ |>.trans (D.mono (by simp))).mono F.size),J⟩
   ·have:k=L:=(by omega);subst this;have J:Hid (E=0):=by show _=_;rw[T.out,<- HL.out];rw[<- HL.out] at DE;exact DE.out
    go_wp2
    go_ret;exact⟨by rw[J.out];rfl,F⟩
theorem zrv{q:List Tst}(h:zfz q=0):1<=q.length/\q.length<=6:=by
 unfold zfz at h
 split at h
 ·rename_i D;have:=of_decide_eq_true D;omega
 ·omega
theorem zvQ{w D:World}{a:Option Addr}{n c:Nat}{p u:Int}(E:Below (w.heap.size+1+1) ((w.alloc (.cells #[.slice a n c] 43)).alloc (.cells #[.int .i64 p,.int .i64 u] 61)) D) :
  D.cell? ⟨w.heap.size,0,none⟩=some (.slice a n c)/\D.cell? ⟨w.heap.size+1,0,none⟩=some (.int .i64 p)/\D.cell? ⟨w.heap.size+1,1,none⟩=some (.int .i64 u)/\Below w.heap.size w D/\w.heap.size<D.heap.size/\w.heap.size+1<D.heap.size:=by
 refine⟨?_,?_,?_,(zbr _ _ _).trans (E.mono (by omega)),by have:=E.size;simp at this;omega,by have:=E.size;simp at this;omega⟩
 all_goals exact(E.cell (by first|(simp;done)|(simp;omega))).trans (by go_simp)
def zgS(S:List Nd)(k:Nat)(q:List Tst):List Int:=(zaQ S k).tail.filter fun p=>zeG S p q
theorem zuy(a:Option Addr)(c:Nat)(S:List Nd)(p u E:Int)(qv:Value)(w:World)(Z:S.length<=9223372036854775807)(J:Big S)(O:zai w a S)(M:zaY S [(p,u)]=E)(F:E≠0) :
  yM 189 #[.agg #[.slice a S.length c],.agg #[.int .i64 p,.int .i64 u],qv] w fun e w' => e=.returned (.tuple #[.slice none 0 0,.int .i64 E])/\Below w.heap.size w w' := by
 have T:Hid (∀ W,zai W a S->Calls _ _ _ _ _):=fun W hW=>zug a c S p u E W Z J hW M F;have U:Hid (zai w a S):=O;have hz:(E == 0)=false:=by simp[F]
 clear O J M;generalize S.length=n at *
 go_enter Tryz.func189,Tryz.ntmps189
 go_wp2_with fail
 refine(T.out _ (U.out.below (zbr _ _ _))).mono ?_;rintro e w1 ⟨rfl,D⟩;simp only[yr] at D;have I:Hid (Below w.heap.size w w1):=(zbr _ _ _).trans (D.mono (by omega));clear D
 go_wp2
 go_ret2
 exact⟨rfl,I.out⟩
theorem zux(a:Option Addr)(c:Nat)(S:List Nd)(k:Nat)(u E:Int)(qa:Option Addr)(qc:Nat)(q:List Tst)(w:World)(wf:WF S)(T:k<S.length)(hT:zaY S [((k:Int),u)]=0)(hS:zai w a S)(U:q.length<=9223372036854775807)(hQ:zch w qa q)(hE:zfz q=E)(M:E≠0) :
  yM 189 #[.agg #[.slice a S.length c],.agg #[.int .i64 (k:Int),.int .i64 u],.slice qa q.length qc] w fun e w' => e=.returned (.tuple #[.slice none 0 0,.int .i64 E])/\Below w.heap.size w w' := by
 have hN:=wf.small;have Z:=wf.big;have D1:Hid (∀ W,zai W a S->Calls _ _ _ _ _):=fun W O=>zlO a c S k S.length u W (by omega) Z O hT T (wf.deep_all T) (by have:=zfR wf T;omega);have d2:=fun W (O:zch W qa q)=>zkW qa qc q W U O;rw[hE] at d2;have D2:Hid _:=d2;have HS:Hid (zai w a S):=hS;have HQ:Hid (zch w qa q):=hQ;have hz:(E == 0)=false:=by simp[M]
 clear hS hQ d2 hE Z wf hT;generalize (zbc S S.length k).length=OL at *;generalize S.length=n at *;generalize q.length=L at *
 go_enter Tryz.func189,Tryz.ntmps189
 go_wp2_with fail
 refine(D1.out _ (HS.out.below (zbr _ _ _))).mono ?_;rintro e w1 ⟨sa,cap,rfl,F,_⟩;simp only[yr] at F;have D:Hid (Below w.heap.size w w1):=(zbr _ _ _).trans (F.mono (by omega));clear F
 go_wp2_with fail
 refine(D2.out _ (HQ.out.below D.out)).mono ?_;rintro e w2 ⟨rfl,I⟩;have J:Hid (Below w.heap.size w w2):=D.out.trans (I.mono D.out.size);clear I
 go_wp2
 go_ret2
 exact⟨rfl,J.out⟩
theorem zoi(f:Int->Bool)(l:List Int)(k:Nat)(h:k<l.length):(l.take (k+1)).filter f=(l.take k).filter f++(if f (l.getD k 0) then [l.getD k 0] else []):=by
 rw[List.take_add_one,List.filter_append,List.getElem?_eq_getElem h,zae l 0 h];simp only[Option.toList,List.filter_cons,List.filter_nil]
theorem zwV(a:Option Addr)(c:Nat)(S:List Nd)(k:Nat)(u:Int)(qa:Option Addr)(qc:Nat)(q:List Tst)(w:World)(wf:WF S)(hk:k<S.length)(h4:(nd S k).u=true)(hT:zaY S [((k:Int),u)]=0)(hS:zai w a S)(hQ:zch w qa q)(hq:zfz q=0) :
  yM 189 #[.agg #[.slice a S.length c],.agg #[.int .i64 (k:Int),.int .i64 u],.slice qa q.length qc] w fun e w' => ∃ fa fc,e=.returned (.tuple #[.slice fa (zgS S k q).length fc,.int .i64 0])/\Below w.heap.size w w' /\ zaj w' fa (zgS S k q)/\(zgS S k q).length<=24/\∀ x:Addr,fa=some x->w.heap.size<=x.block:=by
 have hN:=wf.small;have hB:=wf.big;have hlen:=zrv hq;have b6:=zrr wf hk h4;have D1:Hid (∀ W,zai W a S->Calls _ _ _ _ _):=fun W hW=>zlO a c S k S.length u W (by omega) hB hW hT hk (wf.deep_all hk) (by have:=zfR wf hk;omega);have d2:=fun W (hW:zch W qa q)=>zkW qa qc q W (by omega) hW;rw[hq] at d2;have D2:Hid _:=d2;have D3:Hid (∀ (p:Nat) W,p<S.length->zai W a S->zch W qa q->Calls _ _ _ _ _):=fun p W hp h1 h2=>zwr a c S p qa qc q W wf hp h1 hlen.2 h2;have HS:Hid (zai w a S):=hS;have HQ:Hid (zch w qa q):=hQ
 have d8:Hid (∀ i,i<(zaQ S k).tail.length->∃ p:Nat,(zaQ S k).tail.getD i 0=p/\p<S.length):=fun i hi=>by
  rw[List.length_tail] at hi;obtain⟨p,e,hp,_⟩:=b6.each (i+1) (by omega);refine⟨p,?_,hp⟩;rw[<- e,zae _ _ (by rw[List.length_tail];omega),zae _ _ (by omega),List.getElem_tail]
 have b8:=b6.pos;have e6:=b6.small
 have TL:Hid (∀ W sa,zaj W sa (zaQ S k)->∃ b o,sa=some ⟨b,o,none⟩/\zaj W (some ⟨b,o+1,none⟩) (zaQ S k).tail):=fun W sa h=>by
  obtain⟨b,o,e,_⟩:=h 0 b8;refine⟨b,o,e,fun i hi=>⟨b,o+1,rfl,?_⟩⟩;rw[List.length_tail] at hi;obtain⟨b', o', e', hc⟩:=h (i+1) (by omega);rw[e] at e'
  cases e'
  rw[show o+1+i=o+(i+1) by omega,hc,zae _ _ (by omega),zae _ _ (by rw[List.length_tail];omega),List.getElem_tail]
 have FT:Hid (∀ i,i<(zaQ S k).tail.length->((zaQ S k).tail.take (i+1)).filter (fun p=>zeG S p q)=((zaQ S k).tail.take i).filter (fun p=>zeG S p q)++(if zeG S ((zaQ S k).tail.getD i 0) q then [(zaQ S k).tail.getD i 0] else [])):=fun i hi=>zoi _ _ i hi;have FE:Hid (zgS S k q=((zaQ S k).tail.take (zaQ S k).tail.length).filter (fun p=>zeG S p q)):=by show _=_;rw[List.take_length];rfl
 have FL:Hid (∀ i,(((zaQ S k).tail.take i).filter (fun p=>zeG S p q)).length<=24):=fun i=>by
  refine yH (List.length_filter_le _ _) ?_;rw[List.length_take,List.length_tail];omega
 have c8:(zbc S S.length k).length=(zaQ S k).tail.length+1:=by rw[List.length_tail];show (zaQ S k).length=_;omega
 clear hS hQ d2 hq hB wf hT b6 b8 e6;rw[show zbc S S.length k=zaQ S k from rfl] at D1 c8;rw[c8] at D1;clear c8;generalize zgS S k q=R at *;generalize hn:S.length=n at *;have HN:Hid _:=hn;clear hn;generalize hl:q.length=L at *;have HL:Hid _:=hl;clear hl;generalize e5:(zaQ S k).tail.length=U at *;have e0:Hid _:=e5;clear e5;obtain⟨i0,h3,h9,i1,i2⟩:=info_parts info3
 go_enter Tryz.func189,Tryz.ntmps189
 go_wp2_with fail
 refine(D1.out _ (HS.out.below (zbr _ _ _))).mono ?_;rintro e w1 ⟨sa,cap,rfl,b5,e1,d4,d5⟩;simp only[yr] at b5;obtain⟨l0,l1,l2,l3,r0,r1⟩:=zvQ b5;have i8:Hid _:=b5;have c7:Hid _:=l3;obtain⟨ob,oo,h8,b7⟩:=TL.out _ _ e1;subst h8;have d9:Hid (zaj w1 (some ⟨ob,oo+1,none⟩) (zaQ S k).tail):=b7;clear b5 l3 e1 b7
 go_wp2_with fail
 refine(D2.out _ (HQ.out.below c7.out)).mono ?_;rintro e F ⟨rfl,b0⟩;have i9:=b0.size;have M:Hid (Below w.heap.size w F):=c7.out.trans (b0.mono c7.out.size);have e8:Hid (zaj F (some ⟨ob,oo+1,none⟩) (zaQ S k).tail):=d9.out.below b0;have b1:=(b0.cell (yd _ _ l0)).trans l0;have b2:=yd _ _ b1;have c6:Hid (w.heap.size<F.heap.size):=b2;clear b0 l0 l1 l2 r0 r1 d9;by_cases g4:cap=1
 ·subst g4;have e2:U=0:=by omega
  have e3:(zaQ S k).tail=[]:=List.length_eq_zero_iff.1 (by rw[e0.out];exact e2);have e9:Hid _:=e3;clear e3 d4 d5;have HT:Hid (zaj F (some ⟨ob,oo,none⟩) (zaQ S k).tail):=(show Hid _ by rw[e9.out];exact(fun i hi=>absurd hi (yx _)))
  go_wp2
  go_loopg [11,31] U (fun g1 s11 s31 wr=>∃ (j:Nat),j<=U/\U-j<=g1/\s31=.int .i64 j/\Hid (Below F.heap.size F wr)/\wr.cell? ⟨w.heap.size,0,none⟩=some (.slice a n c)/\w.heap.size<wr.heap.size/\Hid (wr.ownsRow F.heap.size 3 1 s11 (((zaQ S k).tail.take j).filter (fun p=>zeG S p q)).length ((((zaQ S k).tail.take j).filter (fun p=>zeG S p q)).map (Value.int .i64))))
  case atStart=>exact⟨0,by omega,by omega,rfl,yk _ _,b1,b2,World.ownsRow_nil _ _ _ _⟩
  case round =>
   obtain⟨j,hj,g9,rfl,HB,hc,g8,a6⟩:=hrel;clear b1 b2;obtain⟨pa,pc,Z,I,O⟩:=zei a6.out;have HI:Hid _:=I
   have HK:Hid (∀ x:Addr,pa=some x->w.heap.size<=x.block):=fun x hx=>by
    have h1:=(O x.block (by rw[Z,hx];rfl)).1;have h2:w.heap.size<F.heap.size:=c6.out;omega
   clear I O;by_cases d7:j<U
   ·exact absurd d7 (by omega)
   ·have d6:j=U:=(by omega);subst d6
    have FR:Hid (R=((zaQ S k).tail.take j).filter (fun p=>zeG S p q)):=by
     show _=_;rw[FE.out]
    have T:=FL.out j;rw[<- FR.out] at Z HI T;have b9:Hid (Below w.heap.size w wr):=M.out.trans (HB.out.mono M.out.size);rw[Z];clear Z;generalize a9:R.length=RL at T |-;have a7:Hid _:=a9;clear a9
    go_wp2
    go_ret2
    exact⟨pa,pc,by rw[a7.out];rfl,b9.out,HI.out,by rw[a7.out];exact T,HK.out⟩
 ·have g6:(1:Int)<=(cap:Int):=by omega
  have g7:¬ ((cap:Int)=1):=by omega
  have HT:Hid (zaj F (some ⟨ob,oo+1,none⟩) (zaQ S k).tail):=e8
  go_wp2
  go_loopg [11,31] U (fun g1 s11 s31 wr=>∃ (j:Nat),j<=U/\U-j<=g1/\s31=.int .i64 j/\Hid (Below F.heap.size F wr)/\wr.cell? ⟨w.heap.size,0,none⟩=some (.slice a n c)/\w.heap.size<wr.heap.size/\Hid (wr.ownsRow F.heap.size 3 1 s11 (((zaQ S k).tail.take j).filter (fun p=>zeG S p q)).length ((((zaQ S k).tail.take j).filter (fun p=>zeG S p q)).map (Value.int .i64))))
  case atStart=>exact⟨0,by omega,by omega,rfl,yk _ _,b1,b2,World.ownsRow_nil _ _ _ _⟩
  case round =>
   obtain⟨j,hj,g9,rfl,HB,hc,g8,a6⟩:=hrel;clear b1 b2;obtain⟨pa,pc,Z,I,O⟩:=zei a6.out;have HI:Hid _:=I
   have HK:Hid (∀ x:Addr,pa=some x->w.heap.size<=x.block):=fun x hx=>by
    have h1:=(O x.block (by rw[Z,hx];rfl)).1;have h2:w.heap.size<F.heap.size:=c6.out;omega
   clear I O;by_cases d7:j<U
   ·have i5:(j:Int)<(U:Int):=(by omega);obtain⟨tb,j1,ee,tc⟩:=(HT.out.below HB.out) j (by rw[e0.out];exact d7);cases ee;obtain⟨p,hp,h7⟩:=d8.out j (by omega);have j0:=yd _ _ tc;have FJ:=FT.out j (by omega);rw[hp] at tc FJ;have D:Hid _:=D3.out p wr h7 (HS.out.below (M.out.trans (HB.out.mono M.out.size))) (HQ.out.below (M.out.trans (HB.out.mono M.out.size)));have b4:Hid _:=FJ;have i7:=FL.out j;clear FJ hp;generalize hA:((zaQ S k).tail.take j).filter (fun p=>zeG S p q)=A at *;have HA:Hid _:=hA;clear hA
    cases hso:zeG S p q with
    | false =>
     rw[hso] at D b4
     have F2:Hid (((zaQ S k).tail.take (j+1)).filter (fun p=>zeG S p q)=A):=by
      show _=_;rw[b4.out];simp
     clear hso Z
     go_wp2_with fail
     refine ye D.out ?_;rintro e w3 ⟨rfl,E⟩;have c9:=(E.cell (yd _ _ hc)).trans hc;have a5:Hid (Below F.heap.size F w3):=HB.out.trans (E.mono HB.out.size)
     have a8:Hid (w3.ownsRow F.heap.size 3 1 u11 A.length (A.map (Value.int .i64))):=a6.out.kept (row:=none) ⟨E.os,E.tape,E.output,E.size,fun k hk _=>E.block k hk⟩ (by
      cases Z:u11.ownBlock with
      | none=>exact Or.inl rfl
      | some k=>exact Or.inr (fun e=>by cases e))
     have i3:=E.size;clear E
     go_wp2
     go_roundg (U-(j+1))
     case measure=>omega
     case rel=>exact⟨j+1,by omega,by omega,by go_num,a5,c9,by omega,by rw[F2.out];exact a8⟩
    | true =>
     rw[hso] at D b4
     have F2:Hid (((zaQ S k).tail.take (j+1)).filter (fun p=>zeG S p q)=A++[(p:Int)]):=by
      show _=_;rw[b4.out];simp
     clear hso Z
     go_wp2_with fail
     refine ye D.out ?_;rintro e w3 ⟨rfl,E⟩;have c9:=(E.cell (yd _ _ hc)).trans hc;have a5:Hid (Below F.heap.size F w3):=HB.out.trans (E.mono HB.out.size)
     have a8:Hid (w3.ownsRow F.heap.size 3 1 u11 A.length (A.map (Value.int .i64))):=a6.out.kept (row:=none) ⟨E.os,E.tape,E.output,E.size,fun k hk _=>E.block k hk⟩ (by
      cases Z:u11.ownBlock with
      | none=>exact Or.inl rfl
      | some k=>exact Or.inr (fun e=>by cases e))
     have i3:=E.size;have i6:=HB.out.size;have i4:w.heap.size<w3.heap.size:=(by omega);clear E
     go_wp2_with (at_builtin;refine wpList_append_own _ rfl _ _ 48 rfl F.heap.size 3 i0 (.int .i64 0) 1 8 Tryz.underlying48 h3 h9 i1 i2 rfl (by decide) _ _ _ rfl (a8.out.alloc _) ⟨w3.heap.size,0,none⟩ 1 1 [.int .i64 (p:Int)] rfl rfl ?c1 ?c2 ?c3 ?c4 ?c5 ?_)
     case c1 =>
      intro i u hi
      match i,hi with
      | 0,hi=>simp at hi;subst hi;simp[Addr.add]
     case c2=>intro u hu;simp at hu;subst hu;rfl
     case c3=>unfold maxLen;omega
     case c4=>omega
     case c5=>simp;omega
     intro v' w4 b3 J _;have e7:Hid (Below F.heap.size F w4):=(a5.out.alloc a5.out.size _).grown J (by simp;have:=a5.out.size;omega) (fun k hk=>(a8.out.lt k hk).1)
     have g5:w4.cell? ⟨w.heap.size,0,none⟩=some (.slice a n c):=by
      have h1:=zcM c9 (.cells #[.int .i64 (p:Int)] 3);exact(yC (J.block _ (by simp;omega) (fun e=>by have h5:F.heap.size<=w.heap.size:=(a8.out.lt _ e.symm).1;have h6:w.heap.size<F.heap.size:=c6.out;omega))).trans h1
     have e4:w.heap.size<w4.heap.size:=by have:=J.size;simp at this;omega
     have g0:Hid (w4.ownsRow F.heap.size 3 1 v' (A++[(p:Int)]).length ((A++[(p:Int)]).map (Value.int .i64))):=by
      show _;rw[List.length_append,List.map_append];exact b3
     clear b3 J
     go_wp2
     go_roundg (U-(j+1))
     case measure=>omega
     case rel=>exact⟨j+1,by omega,by omega,by go_num,e7,g5,e4,by rw[F2.out];exact g0⟩
   ·have d6:j=U:=(by omega);subst d6
    have FR:Hid (R=((zaQ S k).tail.take j).filter (fun p=>zeG S p q)):=by
     show _=_;rw[FE.out]
    have T:=FL.out j;rw[<- FR.out] at Z HI T;have b9:Hid (Below w.heap.size w wr):=M.out.trans (HB.out.mono M.out.size);rw[Z];clear Z;generalize a9:R.length=RL at T |-;have a7:Hid _:=a9;clear a9
    go_wp2
    go_ret2
    exact⟨pa,pc,by rw[a7.out];rfl,b9.out,HI.out,by rw[a7.out];exact T,HK.out⟩
theorem zyD:(Tryz.prog.info? 254).map (fun i=>(i.zero,i.size,i.bytes))=some (some (.agg #[.int .i64 0,.int .i64 0,.slice none 0 0]),3,40):=by kernel_rfl
def zgC(s:Slt)(v:Value):List Value:=[.int .i64 s.pl,.int .i64 s.num,v]
def ziq(L:List Slt)(K:Nat->Value):List Value:=(List.range L.length).flatMap fun i=>zgC (slt L i) (K i)
theorem zqa{L:List Slt}{s:Slt}{i:Nat}(h:i<L.length):slt (L++[s]) i=slt L i:=by
 rw[zeN (by simp;omega),zeN h,List.getElem_append_left h]
theorem zpZ(L:List Slt)(s:Slt):slt (L++[s]) L.length=s:=by
 rw[zeN (by simp)];simp
theorem zpc(L:List Slt)(K:Nat->Value)(s:Slt)(v:Value):ziq L K++zgC s v=ziq (L++[s]) (fun i=>if i=L.length then v else K i):=by
 unfold ziq;rw[List.length_append,List.length_singleton,List.range_succ,List.flatMap_append]
 congr 1
 ·refine zkl (fun x E=>?_);have D:=List.mem_range.1 E;have:x≠L.length:=by omega
  simp only[ya this];rw[zqa D]
 ·simp[zpZ]
def zit(B:Nat)(L:List Slt)(K:Nat->Value)(v:Value)(w:World):Prop :=
 w.ownsRow B 254 3 v L.length (ziq L K)/\∀ i,i<L.length->w.ownsRow B 3 1 (K i) (slt L i).gv.length ((slt L i).gv.map (Value.int .i64))
theorem zit.other{B:Nat}{L:List Slt}{K:Nat->Value}{v:Value}{w w' : World}(h:zit B L K v w)(E:∀ b,B<=b->b<w.heap.size->w'.heap[b]?=w.heap[b]?):zit B L K v w' :=
 ⟨zaK h.1 (fun k D=>E k (h.1.lt k D).1 (h.1.lt k D).2),fun i hi=>zaK (h.2 i hi) (fun k D=>E k ((h.2 i hi).lt k D).1 ((h.2 i hi).lt k D).2)⟩
theorem zit.below{B:Nat}{L:List Slt}{K:Nat->Value}{v:Value}{w w' : World}(h:zit B L K v w)(E:Below w.heap.size w w'):zit B L K v w' := h.other (fun b _ D=>E.block b D)
theorem zit.base{B B' : Nat}{L:List Slt}{K:Nat->Value}{v:Value}{w:World}(h:zit B L K v w)(D:B' <= B):zit B' L K v w:=⟨zaV h.1 D,fun i hi=>zaV (h.2 i hi) D⟩
theorem zfV(L:List Slt)(K:Nat->Value):∀ q,((List.range q).flatMap fun i=>zgC (slt L i) (K i)).length=q*3
 | 0=>rfl
 | q+1=>by rw[List.range_succ,List.flatMap_append,List.length_append,zfV L K q];simp[zgC];omega
theorem zjK(L:List Slt)(K:Nat->Value){i j:Nat}(D:j<3):∀ {q:Nat},i<q->((List.range q).flatMap fun i=>zgC (slt L i) (K i))[i*3+j]?=(zgC (slt L i) (K i))[j]?
 | 0,hi=>by omega
 | q+1,hi=>by
  rw[List.range_succ,List.flatMap_append];by_cases e:i<q
  ·rw[List.getElem?_append_left (by rw[zfV];omega)];exact zjK L K D e
  ·have:i=q:=(by omega);subst this;rw[List.getElem?_append_right (by rw[zfV];omega),zfV,show i*3+j-i*3=j by omega];simp
theorem zit.slts{B:Nat}{L:List Slt}{K:Nat->Value}{v:Value}{w:World}(h:zit B L K v w):∃ a c,v=.slice a L.length c/\zga w a L:=by
 obtain⟨E,O⟩:=h;have D:=E;obtain⟨hl,h⟩:=E;rcases h with ⟨rfl,h0⟩ |⟨g,cap,F,rfl,hb,hg,h1,T,U,Z⟩
 ·exact⟨none,0,by rw[h0],fun i hi=>by omega⟩
 ·refine⟨some ⟨g,0,none⟩,cap,rfl,fun i hi=>⟨g,0,rfl,?_⟩⟩
  have hc:∀ j,j<3->w.cell? ⟨g,i*3+j,none⟩=(zgC (slt L i) (K i))[j]?:=fun j M=>by
   rw[<- zjK L K M hi];exact D.cellAt (i*3+j) (by omega)
  obtain⟨sa,sc,I,J⟩:=zfP (O i hi);rw[yB];refine⟨hc 0 (by omega),hc 1 (by omega),sa,sc,?_,J⟩;rw[hc 2 (by omega),I];rfl
theorem zit.step{wr wp w3:World}{B:Nat}{L:List Slt}{K:Nat->Value}{v v1 v2:Value}{s:Slt}{o3:Obj}(I:zit B L K v wr)(hB:B<=wr.heap.size)(hs:wr.heap.size<=wp.heap.size)
  (e:∀ k,k<wr.heap.size->wp.heap[k]?=wr.heap[k]?) (E:wp.ownsRow wr.heap.size 3 1 v1 s.gv.length (s.gv.map (Value.int .i64)))
  (h3:(wp.alloc o3).grownBy w3 v.ownBlock) (M:w3.ownsRow B 254 3 v2 (L.length+1) (ziq L K++zgC s v1)) :
  zit B (L++[s]) (fun i=>if i=L.length then v1 else K i) v2 w3:=by
 obtain⟨Z,D⟩:=I
 have T:∀ k,k<wp.heap.size->v.ownBlock≠some k->w3.heap[k]?=wp.heap[k]?:=fun k D O =>
  (h3.block k (by simp;omega) (fun e=>O e.symm)).trans (Below.heap_alloc _ _ _ D)
 refine⟨?_,fun i hi=>?_⟩
 ·rw[<- zpc,List.length_append,List.length_singleton];exact M
 ·rw[List.length_append,List.length_singleton] at hi;by_cases U:i=L.length
  ·subst U;simp only[if_true];rw[zpZ];refine zaK (zaV E hB) (fun k D=>?_);have hl:=E.lt k D;exact T k hl.2 (fun ek=>by have:=(Z.lt k ek).2;omega)
  ·simp only[ya U];have J:i<L.length:=(by omega);rw[zqa J];have F:=D i J;refine zaK F (fun k D=>?_);have hl:=F.lt k D;exact(T k (by omega) (zej F Z (by decide) k D)).trans (e k hl.2)
theorem ztT{W:World}{b:Nat}{s:Slt}{v:Value}(c0:W.cell? ⟨b,0,none⟩=some (.int .i64 s.pl))(c1:W.cell? ⟨b,1,none⟩=some (.int .i64 s.num))(c2:W.cell? ⟨b,2,none⟩=some v):∀ j u,(zgC s v)[j]?=some u->W.cell? ((⟨b,0,none⟩:Addr).add j)=some u:=fun j u D=>by
 unfold zgC at D;rw[Addr.add_lit]
 match j,D with
 | 0,D=>cases D;exact c0
 | 1,D=>cases D;exact c1
 | 2,D=>cases D;exact c2
theorem zxJ{s:Slt}{a:Option Addr}{n c:Nat}:∀ u ∈ zgC s (.slice a n c),u.oneCell' = true:=fun u D=>by
 unfold zgC at D;simp at D;rcases D with rfl|rfl|rfl <;> rfl
theorem zrN(a:Option Addr)(c:Nat)(S:List Nd)(H:Int)(w:World)(O:S.length<=9223372036854775807)(F:zai w a S)(J:zbV S H = -1) :
  yM 214 #[.agg #[.slice a S.length c],.int .i64 H] w fun e w' => e=.returned (.slice none 0 0)/\Below w.heap.size w w' := by
 have d:=fun(W:World) (T:zai W a S)=>zdm a c S H W O T;rw[J] at d;have D:Hid _:=d;have M:Hid (zai w a S):=F;clear d F J;generalize S.length=n at *
 go_enter Tryz.func214,Tryz.ntmps214
 go_wp2_with fail
 refine ye (D.out _ (M.out.below ((yk _ _).alloc (yj _) _))) ?_;rintro e U ⟨rfl,I⟩;have E:Hid (Below w.heap.size w U):=((yk _ _).alloc (yj _) _).trans (I.mono (by simp));clear I
 go_wp2_with fail
 go_ret;exact⟨rfl,E.out⟩
theorem WF.used_host{S:List Nd}(h:WF S){r:Nat}(E:r<S.length)(hh:(nd S r).h≠-1):(nd S r).u=true:=by
 have D:=(zbd (h.node r E)).2.2;unfold zec at D
 split at D
 ·rename_i F;exact F
 ·have:=of_decide_eq_true D;omega
theorem zrQ{S:List Nd}{H:Nat}{P:List Int}{i:Nat}(hi:i<P.length){y:Nat}(D:P.getD i 0=y):zbq S H (P.take (i+1))=zdg S H (zbq S H (P.take i)) (y:Int):=by
 rw[List.take_succ_eq_append_getElem hi,zeM];rw[zae P 0 hi] at D;rw[D]
theorem zuO{S:List Nd}{H:Nat}{P:List Int}(i:Nat)(F:P.length<=24):(zbq S H (P.take i)).length<=24:=by
 have h1:=zns S H (P.take i);have D:=List.length_take_le i P;have E:=List.length_take_le' i P;omega
theorem zrO(a:Option Addr)(c:Nat)(S:List Nd)(H r:Nat)(w:World)(wf:WF S)(hB:Big S)(hH:H<S.length)(hr:r<S.length)(er:zbV S H=r)(hh:(nd S r).h=H)(hS:zai w a S) :
  yM 214 #[.agg #[.slice a S.length c],.int .i64 (H:Int)] w fun e w' => ∃ v K,e=.returned v/\Below w.heap.size w w' /\ zit w.heap.size (zbM S H) K v w' := by
 obtain⟨i0,e4,e7,e8,e9⟩:=info_parts zyD;have hN:=wf.small;have hu:=wf.used_host hr (by omega)
 have g8:Hid (zbM S H=zbq S H (zbc S S.length r)):=by
  show _=_;unfold zbM;rw[er,ya (by omega),yi]
 have d:=fun(W:World) (hW:zai W a S)=>zdm a c S (H:Int) W (by omega) hW;rw[er] at d;have D:Hid _:=d;have DO:Hid (∀ W,zai W a S->Calls _ _ _ _ _):=fun W hW=>zlO a c S r S.length (nd S r).n W (by omega) hB hW (zuT hr hu rfl wf) hr (wf.deep_all hr) (by have:=zfR wf hr;omega);have KM:Hid (∀ (mk:Int) W,zai W a S->Calls _ _ _ _ _):=fun mk W hW=>zrh a c S H mk W hH (by have:=wf.kids_small hH;omega) (fun y hy=>by obtain⟨k,e,F,_⟩:=wf.kid hH hy;exact⟨k,e,F⟩) hW;have HS:Hid (zai w a S):=hS
 have TT:Hid (∀ y,y<S.length->0<=(nd S y).t/\(nd S y).t<=99):=fun y hy=>by
  have h1:=(zbd (wf.node y hy)).1;unfold zcS at h1;simp at h1;omega
 have PL:Hid (∀ y ∈ zbc S S.length r,∃ x:Nat,y=x/\x<S.length):=fun y hy=>by
  obtain⟨q,e,hq,_⟩:=zcO wf hr (wf.deep_all hr) y hy;exact⟨q,e,hq⟩
 have d9:(zbc S S.length r).length<=24:=by have:=zfR wf hr;omega
 clear d hS hu er hB wf;generalize zbc S S.length r=P at *;obtain⟨m,hm⟩:∃ m,P.length=m:=⟨_,rfl⟩;have HM:Hid (P.length=m):=hm;rw[hm] at DO d9;obtain⟨n,hn⟩:∃ n,S.length=n:=⟨_,rfl⟩;have HN:Hid (S.length=n):=hn;rw[hn] at hN hH hr D DO KM TT PL |-;have i5:(H:Int)<(n:Int):=by omega
 have i7:(r:Int)<(n:Int):=by omega
 have i8:((r:Int) == -1)=false:=by simp
 have i9:decide ((r:Int) = -1)=false:=by simp
 clear hn hm
 go_enter Tryz.func214,Tryz.ntmps214
 go_wp2_with fail
 refine ye (D.out _ (HS.out.below ((yk _ _).alloc (yj _) _))) ?_;rintro e w1 ⟨rfl,e0⟩;have J:=e0;simp only[yr] at J;have i1:=J.size;simp only[yr] at i1;have l0:w1.cell? ⟨w.heap.size,0,none⟩=some (.slice a n c):=(J.cell (by simp)).trans (by go_simp);have b0:Hid (Below w.heap.size w w1):=((yk _ _).alloc (yj _) _).trans (J.mono (by omega));obtain⟨nb,no,ea,_,c1,_⟩:=(HS.out.below b0.out) r (by rw[HN.out];exact hr);subst ea;have q0:=yd _ _ l0;have q1:=yd _ _ c1;clear e0 J D;generalize (nd S r).n=U at *
 go_wp2_with fail
 go_region_held3 (fun g0=>g0.cell? ⟨w.heap.size,0,none⟩=some (.slice (some ⟨nb,no,none⟩) n c)/\g0.cell? ⟨nb,no+r*8+1,none⟩=some (.int .i64 U)) (go_keep) (first|(go_at_call 199;refine(ye (DO.out _ ?nd) ?_);(case nd=>exact HS.out.below b0.out.drew);rintro e E ⟨sa,cap,rfl,a6,hI,h4,h7⟩;have d6:Hid (Below w.heap.size w E):=b0.out.drew.trans (a6.mono b0.out.size);have l2:E.cell? ⟨w.heap.size,0,none⟩=some (.slice (some ⟨nb,no,none⟩) n c):=(a6.cell (by exact q0)).trans l0;have d1:E.cell? ⟨nb,no+r*8+1,none⟩=some (.int .i64 U):=(a6.cell (by exact q1)).trans c1;have s2:w.heap.size<E.heap.size:=yz q0 a6.size;have s3:nb<E.heap.size:=yz q1 a6.size;have HI:Hid (zaj E sa P):=hI;clear a6 hI h4 h7))
 go_wp2_with fail
 go_loopg [8,33] m (fun g s8 s33 wr=>∃ (i:Nat) (K:Nat->Value),i<=m/\m-i<=g/\s33=.int .i64 i/\Hid (Below E.heap.size E wr)/\wr.cell? ⟨w.heap.size,0,none⟩=some (.slice (some ⟨nb,no,none⟩) n c)/\E.heap.size<=wr.heap.size/\Hid (zit E.heap.size (zbq S H (P.take i)) K s8 wr))
 case atStart=>exact⟨0,fun _=>.slice none 0 0,by omega,by omega,rfl,yk _ _,l2,yj _,(show zit E.heap.size (zbq S H []) _ _ E from ⟨World.ownsRow_nil _ _ _ _,fun i hi=>by cases hi⟩)⟩
 case round =>
  obtain⟨i,K,hi,hg,rfl,HB,cs,b5,HO⟩:=hrel;clear l2;have HF:Hid ((zbq S H (P.take i)).length<=24):=zuO i (by rw[HM.out];exact d9);obtain⟨qa,qc,hv,d5⟩:=HO.out.slts;subst hv;have b2:Hid (Below w.heap.size w wr):=d6.out.trans (HB.out.mono d6.out.size);by_cases c9:i<m
  ·obtain⟨y,hy,e6⟩:=PL.out (P.getD i 0) (by rw[zae P 0 (by rw[HM.out];exact c9)];exact List.getElem_mem _);obtain⟨pb,po,ep,h9⟩:=(HI.out.below HB.out) i (by rw[HM.out];exact c9);subst ep;rw[hy] at h9;obtain⟨j1,j2,ea,_,_,c2,_⟩:=(HS.out.below b2.out) y (by rw[HN.out];exact e6);cases ea;have j0:(y:Int)<(n:Int):=(by omega);have i6:(i:Int)<(m:Int):=(by omega);have NX:Hid (zbq S H (P.take (i+1))=zdg S H (zbq S H (P.take i)) (y:Int)):=zrQ (by rw[HM.out];exact c9) hy;have ht:=TT.out y e6;have HT:Hid (ztX S (y:Int)=(nd S y).t-90):=(by show _=_;unfold ztX;rw[yi]);clear hy;generalize (nd S y).t=T at *;obtain⟨Q,hQ⟩:∃ Q,T-90=Q:=⟨_,rfl⟩;have hw:IntKind.i64.wrap (T-90)=Q:=(by rw[hQ];have:=hQ;unfold IntKind.wrap;simp[IntKind.bits,IntKind.signed];omega);have g7:Hid (zga wr qa (zbq S H (P.take i))):=d5;clear d5;generalize zbq S H (P.take i)=L at *;have hF:=HF.out;have hc:=fun(W:World) (hW:zga W qa L) (hq:W.cell? ⟨wr.heap.size,0,none⟩=some (.int .i64 Q))=>zqO qa qc L wr.heap.size Q W (by omega) hW hq;have a8:=fun(wp w3:World) (v1 v2:Value) (s:Slt) (o3:Obj)=>zit.step (wp:=wp) (w3:=w3) (v1:=v1) (v2:=v2) (s:=s) (o3:=o3) HO.out b5;obtain⟨ln,c8⟩:∃ z,L.length=z:=⟨_,rfl⟩;have g5:Hid (L.length=ln):=c8;rw[c8] at HO HF hc a8 hF |-;have HC:Hid _:=hc;have d8:Hid _:=a8;clear c8 hc a8;by_cases i4:Q<0
   ·have EQ:Hid (zbq S H (P.take (i+1))=L):=by
     show _=_;rw[NX.out];unfold zdg;rw[yb (by rw[HT.out];omega)]
    go_wp2_with fail
    go_roundg (m-(i+1))
    case measure=>omega
    case rel=>exact⟨i+1,K,by omega,by omega,by go_num,HB.out.trans ((zaa _ _).mono b5),zab cs (zaa _ _),by simp;omega,(show zit _ (zbq S H (P.take (i+1))) K (.slice qa ln qc) _ by rw[EQ.out];exact HO.out.below (zaa _ _))⟩
   ·have EQ:Hid (zbq S H (P.take (i+1))=L++[⟨(y:Int),Q,if L.any (fun s=>decide (s.num=Q)) then [] else zbU S H Q⟩]):=by
     show _=_;rw[NX.out];unfold zdg;rw[HT.out,hQ,ya (by omega)]
    clear NX HT
    have OM:Hid (∀ (W:World) (o3:Obj),(∀ k,k<wr.heap.size->W.heap[k]?=wr.heap[k]?)->wr.heap.size<=W.heap.size->(W.alloc o3).ownsRow E.heap.size 254 3 (.slice qa ln qc) ln (ziq L K)):=fun W o3 h1 h2=>by
     have h3:=HO.out.1;rw[g5.out] at h3;exact zaK h3 (fun k F=>(Below.heap_alloc _ _ _ (by have:=(h3.lt k F).2;omega)).trans (h1 k (h3.lt k F).2))
    have OB:Hid (∀ k,(Value.slice qa ln qc).ownBlock=some k->E.heap.size<=k):=fun k F=>(HO.out.1.lt k F).1
    go_wp2_with fail
    refine ye (HC.out _ (g7.out.below (zaf _ _ _)) (zax wr _ _ 0 _ rfl)) ?_;rintro e w3 ⟨rfl,I⟩;have n0:=zab (zax wr #[.int .i64 Q] 3 0 (.cells #[.int .i64 (y:Int),.int .i64 Q,.slice none 0 0] 254) rfl) I;have n1:=zab (zay wr #[.int .i64 (y:Int),.int .i64 Q,.slice none 0 0] 254 0 (.cells #[.int .i64 Q] 3) rfl) I;have n2:=zab (zay wr #[.int .i64 (y:Int),.int .i64 Q,.slice none 0 0] 254 1 (.cells #[.int .i64 Q] 3) rfl) I;have n3:=zab (zay wr #[.int .i64 (y:Int),.int .i64 Q,.slice none 0 0] 254 2 (.cells #[.int .i64 Q] 3) rfl) I;have nf:w3.frozen? ⟨wr.heap.size+1,2,none⟩=false:=(I.frozen (p:=⟨wr.heap.size+1,2,none⟩) (by simp)).trans (by go_simp);have i2:=I.size;simp only[yr] at i2;have a5:Hid (Below wr.heap.size wr w3):=(zaf wr _ _).trans (I.mono (by simp;omega));have b3:=zab cs a5.out;have g4:Hid (Below E.heap.size E w3):=HB.out.trans (a5.out.mono b5);have z1:wr.heap.size<w3.heap.size:=(by omega);have z2:wr.heap.size+1<w3.heap.size:=(by omega);have z3:w.heap.size<w3.heap.size:=(by omega);clear I cs HC;generalize L.any (fun s=>decide (s.num=Q))=A at *
    cases A with
    | true =>
     go_wp2_with (at_builtin;refine wpList_append_own _ rfl _ _ 251 rfl E.heap.size 254 i0 _ 3 40 Tryz.underlying251 e4 e7 e8 e9 rfl (by decide) (.slice qa ln qc) ln (ziq L K) rfl ?how ⟨w3.heap.size,0,none⟩ 1 1 (zgC ⟨(y:Int),Q,[]⟩ (.slice none 0 0)) rfl rfl ?c1 ?c2 ?c3 ?c4 ?c5 ?_)
     case how=>exact OM.out w3 _ (fun k F=>a5.out.block k F) (by omega)
     case c1=>exact ztT (by go_simp) (by go_simp) (by go_simp)
     case c2=>exact zxJ
     case c3=>unfold maxLen;omega
     case c4=>omega
     case c5=>first|omega|(simp;omega)
     intro v2 w4 b6 O _
     have a7:Hid (zit E.heap.size (zbq S H (P.take (i+1))) (fun j=>if j=ln then .slice none 0 0 else K j) v2 w4):=by
      rw[EQ.out];exact d8.out w3 w4 (.slice none 0 0) v2 ⟨(y:Int),Q,[]⟩ _ (by omega) (fun k F=>a5.out.block k F) (World.ownsRow_nil _ _ _ _) O b6
     have c6:Below E.heap.size w3 w4:=((yk _ w3).alloc (by omega) _).grown O (by simp;omega) (fun k F=>OB.out k F);have b1:Hid (Below E.heap.size E w4):=g4.out.trans c6;have b4:=(c6.cell (p:=⟨w.heap.size,0,none⟩) (by show w.heap.size < _;omega)).trans b3;have e5:=b1.out.size;clear b6 O c6 b3 n0 n1 n2 n3 nf
     go_wp2_with fail
     go_roundg (m-(i+1))
     case measure=>omega
     case rel=>exact⟨i+1,_,by omega,by omega,by go_num,b1,b4,e5,a7⟩
    | false =>
     go_wp2_with fail
     refine ye (KM.out Q _ (HS.out.below (b2.out.trans (a5.out.mono b2.out.size)))) ?_;rintro e w4 ⟨v1,rfl,I,a9⟩;obtain⟨ga,gc,hv,_⟩:=zei a9;subst hv;have e1:=zab n1 I;have e2:=zab n2 I;have e3:=zab n3 I;have ef:=(I.frozen (p:=⟨wr.heap.size+1,2,none⟩) (by exact z2)).trans nf;have b4:=zab b3 I;have e5:=I.size;have b9:Hid _:=a9;have b8:Hid (Below wr.heap.size wr w4):=a5.out.trans (I.mono (by omega));have b1:Hid (Below E.heap.size E w4):=HB.out.trans (b8.out.mono b5);have z4:wr.heap.size+1<w4.heap.size:=(by omega);have z5:w.heap.size<w4.heap.size:=(by omega);clear I a9 n0 n1 n2 n3 nf b3;obtain⟨M,hM⟩:∃ M,zbU S H Q=M:=⟨_,rfl⟩;rw[hM] at b9 EQ |-;obtain⟨mn,d4⟩:∃ z,M.length=z:=⟨_,rfl⟩;have g6:Hid (M.length=mn):=d4;rw[d4] at b9 |-;clear hM d4
     go_wp2_with (at_builtin;refine wpList_append_own _ rfl _ _ 251 rfl E.heap.size 254 i0 _ 3 40 Tryz.underlying251 e4 e7 e8 e9 rfl (by decide) (.slice qa ln qc) ln (ziq L K) rfl ?how ⟨w4.heap.size,0,none⟩ 1 1 (zgC ⟨(y:Int),Q,M⟩ (.slice ga mn gc)) rfl rfl ?c1 ?c2 ?c3 ?c4 ?c5 ?_)
     case how=>exact OM.out _ _ (fun k F=>(yv _ _ _ _ (by show k≠wr.heap.size+1;omega)).trans (b8.out.block k F)) (by simp[World.setCell];omega)
     case c1=>exact ztT (by go_simp) (by go_simp) (by go_simp)
     case c2=>exact zxJ
     case c3=>unfold maxLen;omega
     case c4=>omega
     case c5=>first|omega|(simp[World.setCell];omega)
     intro v2 w5 b7 Z _
     have a7:Hid (zit E.heap.size (zbq S H (P.take (i+1))) (fun j=>if j=ln then .slice ga mn gc else K j) v2 w5):=by
      rw[EQ.out];refine d8.out _ w5 (.slice ga mn gc) v2 ⟨(y:Int),Q,M⟩ _ (by simp[World.setCell];omega) (fun k F=>(yv _ _ _ _ (by show k≠wr.heap.size+1;omega)).trans (b8.out.block k F)) ?_ Z b7;have h6:w4.ownsRow w3.heap.size 3 1 (.slice ga mn gc) mn (M.map (Value.int .i64)):=b9.out;show World.ownsRow _ _ _ _ _ M.length _;rw[g6.out];exact zaK (zaV h6 (by omega)) (fun k F=>yv _ _ _ _ (by have:=(h6.lt k F).1;show k≠wr.heap.size+1;omega))
     have c7:Below E.heap.size w4 w5:=(((yk _ w4).setCell (by show E.heap.size<=wr.heap.size+1;omega) _).alloc (by simp[World.setCell];omega) _).grown Z (by simp[World.setCell];omega) (fun k F=>OB.out k F);have d7:Hid (Below E.heap.size E w5):=b1.out.trans c7;have g9:=(c7.cell (p:=⟨w.heap.size,0,none⟩) (by show w.heap.size < _;omega)).trans b4;have i3:=d7.out.size;clear b7 Z c7 b4 e1 e2 e3 ef
     go_wp2_with fail
     go_roundg (m-(i+1))
     case measure=>omega
     case rel=>exact⟨i+1,_,by omega,by omega,by go_num,d7,g9,i3,a7⟩
  ·have h8:i=m:=(by omega);subst h8
   have a7:Hid (zit w.heap.size (zbM S H) K (.slice qa (zbq S H (P.take i)).length qc) wr):=by
    have h:=HO.out.base (B' := w.heap.size) (by omega);rw[g8.out];have e:P.take i=P:=List.take_of_length_le (by rw[HM.out];omega);rw[e] at h |-;exact h
   clear HO d5 HF;generalize (zbq S H (P.take i)).length=ln at *
   go_wp2
   go_ret;exact⟨_,K,rfl,b2.out,a7.out⟩
end Go.Proofs.YtcbcpomacdngmaaGreat
