/-
  x
-/
import Derived.Test.YtcbcpomacdngmaaGreatA13
namespace Go.Proofs.YtcbcpomacdngmaaGreat
set_option maxRecDepth 100000
set_option maxHeartbeats 4000000
set_option linter.unusedVariables false
open Go.RowKit Tryz
variable{L:List Slt}{v:Value}{B i j n c H:Nat}{K:Nat->Value}{S:List Nd}{w w':World}{a:OA}{P:List Int}
def tst(q:List Tst)(i:Nat):Tst:=q.getD i ⟨0,0,false⟩
def jM(w:Wd)(a:OA)(q:List Tst):Prop :=
 ∀ i,i<q.length->∃ b o,a=some ⟨b,o,none⟩/\w.cell? ⟨b,o+i*3,none⟩=some (.int .i64 (tst q i).t)/\w.cell? ⟨b,o+i*3+1,none⟩=some (.int .i64 (tst q i).m)/\w.cell? ⟨b,o+i*3+2,none⟩=some (.bool (tst q i).near)
theorem jM.below{q:List Tst}(h:jM w a q)(hb:Bl w w'):jM w' a q:=fun i hi=>by
 obtain⟨b,o,e,h1,D,E⟩:=h i hi;exact⟨b,o,e,(hb.cell (yi w ⟨b,o+i*3,none⟩ h1)).trans h1,(hb.cell (yi w ⟨b,o+i*3+1,none⟩ D)).trans D,(hb.cell (yi w ⟨b,o+i*3+2,none⟩ E)).trans E⟩
theorem Ez{q:List Tst}(h:j<q.length):(q.take (j+1)).reverse=tst q j ::(q.take j).reverse:=by
 rw[List.take_add_one,List.getElem?_eq_getElem h,List.reverse_append];unfold tst;rw[aJ q _ h];rfl
theorem Fa{te:Tst}{l:List Tst}{ps:List Int}:kY S (te :: l) ps=if l.length=0 then jK S te ps else kY S l (iT S te.near (jK S te ps)):=by
 cases l with
 | nil=>rfl
 | cons D r=>rfl
theorem Fb(S:List Nd)(a:OA)(c:Nat)(te:Tst)(w:Wd)(hS:aD w a S)(D:Nat)(ps:List Int)(b0:jL S ps)(v:Value)(W:Wd)(hb:Bl w W)(T:D<W.heap.size)(cs:W.cell? ⟨w.heap.size,0,none⟩=some (.slice a S.length c))(t0:W.cell? ⟨D,0,none⟩=some (.int .i64 te.t))(t1:W.cell? ⟨D,1,none⟩=some (.int .i64 te.m))(t2:W.cell? ⟨D,2,none⟩=some (.bool te.near))
  (I:W.ownsRow (w.heap.size+1) 3 1 v ps.length (ps.map (Value.int .i64))) (a9:∀ k,v.ownBlock=some k->k≠D) :
  yO 197 #[v,.func (.func 211) #[] #[.pointer (some ⟨D,0,none⟩),.pointer (some ⟨w.heap.size,0,none⟩)]] W fun e w' => ∃ v', e=.returned v' /\ Bl w w' /\ w'.ownsRow (w.heap.size+1) 3 1 v' (jK S te ps).length ((jK S te ps).map (Value.int .i64))/\(∀ o,w'.cell? ⟨D,o,none⟩=W.cell? ⟨D,o,none⟩)/\w'.cell? ⟨w.heap.size,0,none⟩=some (.slice a S.length c)/\W.heap.size<=w'.heap.size:=by
 have eg:=yM func211 (by kernel_rfl) rfl;rcases I.2 with ⟨e,e0⟩ |⟨g,cap,b4,e,hg,U,h3,h4,h5,h6⟩
 ·subst e;have Z:ps=[]:=List.length_eq_zero_iff.1 e0;subst Z;refine(Ej _ _ W eg).mono ?_;rintro e w' ⟨rfl,E⟩;exact⟨_,rfl,hb.trans (E.mono hb.size),World.ownsRow_nil _ _ _ _,fun o=>E.cell (by exact T),(E.cell (yi _ _ cs)).trans cs,E.size⟩
 ·subst e;have a8:g≠D:=a9 g rfl;have b5:g<W.heap.size:=(Array.getElem?_eq_some_iff.1 U).1;have J:cap<=9223372036854775807:=by unfold maxLen at h4;omega
  obtain⟨_,_,_,_,G,hG,a7⟩:=RQ I
  have a5:∀ w1,Off (fun b=>b=g) W w1->Bl w w1/\(∀ o,w1.cell? ⟨D,o,none⟩=W.cell? ⟨D,o,none⟩)/\w1.cell? ⟨w.heap.size,0,none⟩=some (.slice a S.length c):=fun w1 h1 =>
   ⟨hb.trans (h1.below hb.size (fun k hk=>by omega)),fun o=>h1.cell (by exact T) (fun e=>a8 (by simpa using e.symm)),(h1.cell (yi _ _ cs) (fun e=>by simp at e;omega)).trans cs⟩
  refine(Ei 211 _ (fun x=>!zyq te.t te.m (nd S x.toNat)) g ps.length cap ps G W rfl h3 J hG a7 eg (fun x hx w1 h1=>?_)).mono ?_
  ·obtain⟨k,rfl,hk⟩:=b0 x hx;obtain⟨b1,M,b3⟩:=a5 w1 h1;have:=Eg a c S te.t te.m te.near D w.heap.size k w1 hk (hS.below b1) ((M 0).trans t0) ((M 1).trans t1) ((M 2).trans t2) b3;rw[yk];exact this
  ·rintro e w' ⟨rfl,F,G', a6,O⟩;obtain⟨b1,M,b3⟩:=a5 w' F;refine⟨_,rfl,b1,PO a6 O (yJ (IP _ _) h3) h4 hg,M,b3,F.size⟩
theorem Fe(a:OA)(c:Nat)(S:List Nd)(place:Nat)(qa:OA)(qc:Nat)(q:List Tst)(w:Wd)(wf:WF S)(hp:place<S.length)(hS:aD w a S)(hq:q.length<=6)(hQ:jM w qa q) :
  yO 201 #[.agg #[.slice a S.length c],.int .i64 (place:Int),.slice qa q.length qc] w fun e w' => e=.returned (.bool (gY S place q))/\Below w.heap.size w w' := by
 have hN:=wf.small;have T:Hid (∀ (te:Tst) bt ps,jL S ps->∀ v W,Bl w W->bt<W.heap.size->W.cell? ⟨w.heap.size,0,none⟩=some (.slice a S.length c)->W.cell? ⟨bt,0,none⟩=some (.int .i64 te.t)->W.cell? ⟨bt,1,none⟩=some (.int .i64 te.m)->W.cell? ⟨bt,2,none⟩=some (.bool te.near)->W.ownsRow (w.heap.size+1) 3 1 v ps.length (ps.map (Value.int .i64))->(∀ k,v.ownBlock=some k->k≠bt)->Calls _ _ _ _ _):=fun te bt ps e7 v W hb e1 cs t0 t1 t2 b6 e5=>Fb S a c te w hS bt ps e7 v W hb e1 cs t0 t1 t2 b6 e5;have d4:Hid (∀ pa pc places near W,aD W a S->places.length<=1000000->aG W pa places->Calls _ _ _ _ _):=fun pa pc places near W hW hL hP=>Ey a c S pa pc places near W hN hW hL hP;have PL:Hid (∀ near ps,jL S ps->jL S (iT S near ps)):=fun near ps h=>(Ed wf near h).1;have PN:Hid (∀ te ps,jL S ps->jL S (jK S te ps)):=fun te ps h=>h.sift;have HS:Hid (aD w a S):=hS;have HQ:Hid (jM w qa q):=hQ
 have TR:Hid (∀ j,j<q.length->∀ ps,kY S (q.take (j+1)).reverse ps=if j=0 then jK S (tst q j) ps else kY S (q.take j).reverse (iT S (tst q j).near (jK S (tst q j) ps))):=fun j hj ps=>by
  rw[Ez hj,Fa];simp only[List.length_reverse,List.length_take];by_cases e:j=0
  ·subst e;rfl
  ·rw[yd (by omega),yd e]
 have H0:Hid (kY S q.reverse [(place:Int)]=kY S (q.take q.length).reverse [(place:Int)]):=by show _=_;rw[List.take_length]
 have HP:Hid (jL S [(place:Int)]):=fun x hx=>⟨place,by simpa using hx,hp⟩;have HD:Hid (gY S place q=decide (0<(kY S q.reverse [(place:Int)]).length)):=rfl;generalize gY S place q=R at *;generalize kY S q.reverse [(place:Int)]=F at *;clear hS hQ wf;generalize hn:S.length=n at *;have HN:Hid _:=hn;clear hn;generalize hl:q.length=L at *;have HL:Hid _:=hl;clear hl
 go_enter func201,ntmps201
 go_wp2
 have c0:((w.alloc (.cells #[.slice a n c] 43)).alloc (.cells #[.int .i64 (place:Int)] 3)).cell? ⟨w.heap.size,0,none⟩=some (.slice a n c):=by go_simp
 have HO:Hid (((w.alloc (.cells #[.slice a n c] 43)).alloc (.cells #[.int .i64 (place:Int)] 3)).ownsRow (w.heap.size+1) 3 1 (.slice (some ⟨w.heap.size+1,0,none⟩) 1 1) ([(place:Int)]).length (([(place:Int)]).map (Value.int .i64))):=⟨by simp,Or.inr ⟨w.heap.size+1,1,#[.int .i64 (place:Int)],rfl,yr _,by
  have:=yN (w.alloc (.cells #[.slice a n c] 43)) (.cells #[.int .i64 (place:Int)] 3);simpa using this,by simp,by unfold maxLen;omega,by simp,by simp⟩⟩
 go_loopg [7,8] L (fun g1 s7 s8 wr=>∃ (j:Nat) (x:Int) (ps:List Int),j<=L/\j<=g1/\x=(j:Int)-1/\s8=.int .i64 x/\ps.length<=24/\Hid (Bl w wr)/\wr.cell? ⟨w.heap.size,0,none⟩=some (.slice a n c)/\w.heap.size<wr.heap.size/\Hid (wr.ownsRow (w.heap.size+1) 3 1 s7 ps.length (ps.map (Value.int .i64)))/\Hid (jL S ps)/\Hid (F=kY S (q.take j).reverse ps))
 case atStart=>exact⟨L,(L:Int)-1,[(place:Int)],yr _,yr _,rfl,rfl,by simp,jX _ _ _,c0,by simp;omega,HO,HP,H0⟩
 case round =>
  obtain⟨j,x,ps,hj,g7,hx,rfl,e6,HB,cs,hs,a6,a7,HF⟩:=hrel;clear c0 HO HP H0;obtain⟨pa,pc,hv,I,U⟩:=uI a6.o;have HI:Hid _:=I;have HK:Hid _:=U;clear I U;by_cases e3:j=0
  ·subst e3;have e9:x = -1:=(by omega);subst e9;clear hx
   have hR:R=decide (0<ps.length):=by
    rw[HD.o,HF.o];rfl
   have HR:Hid _:=hR;rw[hv];clear hR hv;generalize ps.length=d9 at *
   go_wp2
   go_ret;exact⟨by rw[HR.o];rfl,HB.o⟩
  ·obtain⟨i,rfl⟩:∃ i,j=i+1:=⟨j-1,by omega⟩;obtain rfl:x=(i:Int):=by omega
   clear hx;have g8:(i:Int)<(L:Int):=(by omega);obtain⟨qb,qo,rfl,q0,q1,q2⟩:=(HQ.below HB) i (by rw[HL.o];omega);have h8:=yi _ _ q0;have b2:=TR.o i (by omega) ps;have b0:Hid _:=b2;clear b2;have SI:Hid (∀ W,Bl w W->wr.heap.size<W.heap.size->W.cell? ⟨w.heap.size,0,none⟩=some (.slice a n c)->W.cell? ⟨wr.heap.size,0,none⟩=some (.int .i64 (tst q i).t)->W.cell? ⟨wr.heap.size,1,none⟩=some (.int .i64 (tst q i).m)->W.cell? ⟨wr.heap.size,2,none⟩=some (.bool (tst q i).near)->W.ownsRow (w.heap.size+1) 3 1 (.slice pa ps.length pc) ps.length (ps.map (Value.int .i64))->Calls _ _ _ _ _):=fun W h1 h2 h3 h4 h5 h6 h7=>T.o (tst q i) wr.heap.size ps a7.o (.slice pa ps.length pc) W h1 h2 h3 h4 h5 h6 h7 (fun k hk=>by have:=HK.o k (by rw[hv];exact hk);omega);have OW:Hid (wr.ownsRow (w.heap.size+1) 3 1 (.slice pa ps.length pc) ps.length (ps.map (Value.int .i64))):=(by rw[<- hv];exact a6.o);have b1:Hid (jL S (jK S (tst q i) ps)):=PN.o _ _ a7.o;rw[hv];clear hv a6 a7 HI HK T;have b7:(jK S (tst q i) ps).length<=24:=yJ (IP _ _) e6;generalize b9:jK S (tst q i) ps=D at *;generalize c7:tst q i=te at *;have g5:Hid _:=c7;clear b9 c7;generalize b3:ps.length=d9 at *;have g4:Hid _:=b3;clear b3;obtain⟨tt,tm,tn⟩:=te;dsimp only at *
   go_wp2_with fail
   refine yj (SI _ (HB.alloc HB.size _) (by simp) (by go_simp) (by go_simp) (by go_simp) (by go_simp) (OW.alloc _)) ?_;rintro e w2 ⟨v', rfl,b4,J,c6,a8,g0⟩;obtain⟨c8,c9,a9,E,_⟩:=uI J;have t2:w2.cell? ⟨wr.heap.size,2,none⟩=some (.bool tn):=(c6 2).trans (by go_simp);have M:Hid _:=b4;have d7:Hid (w2.ownsRow (w.heap.size+1) 3 1 (.slice c8 D.length c9) D.length (D.map (Value.int .i64))):=(by rw[<- a9];exact J);have d6:Hid _:=E;simp only[yw] at g0;have e8:w.heap.size<w2.heap.size:=(by omega);have i0:wr.heap.size<w2.heap.size:=(by omega);clear b4 J E c6;rw[a9];clear a9;by_cases b5:i=0
   ·subst b5
    have a5:Hid (F=kY S (q.take 0).reverse D):=by
     show _=_;rw[HF.o,b0.o,ye rfl];rfl
    go_wp2
    go_roundg 0
    case measure=>omega
    case rel=>exact⟨0,-1,D,by omega,by omega,rfl,by go_num,b7,M,a8,e8,d7,b1,a5⟩
   ·have g9:(0:Int)<(i:Int):=by omega
    have a5:Hid (F=kY S (q.take i).reverse (iT S tn D)):=by
     show _=_;rw[HF.o,b0.o,yd b5]
    have e0:Hid (jL S (iT S tn D)):=PL.o _ _ b1.o;have AB:Hid _:=d4.o c8 c9 D tn w2 (HS.below M) (by omega) d6.o;generalize b8:D.length=g6 at *;clear b8
    go_wp2_with fail
    refine yj AB.o ?_;rintro e w3 ⟨v3,rfl,O,Z,e4⟩;have h9:=O.size;have e2:=(O.cell (yi _ _ a8)).trans a8;have d5:Hid (Bl w w3):=M.trans (O.mono M.size);have d8:Hid (w3.ownsRow (w.heap.size+1) 3 1 v3 (iT S tn D).length ((iT S tn D).map (Value.int .i64))):=JE Z (by omega);clear Z O
    go_wp2
    go_roundg i
    case measure=>omega
    case rel=>exact⟨i,(i:Int)-1,iT S tn D,by omega,by omega,rfl,by go_num,by omega,d5,e2,by omega,d8,e0,a5⟩
def xH(te:Tst):Bool:=(decide (te.t = -1000001) || decide (0<=te.t/\te.t<=99)) && (decide (te.m = -1000001) || decide (-1000000<=te.m/\te.m<=1000000))
theorem Ff(te:Tst)(w:Wd) :
  yO 210 #[.agg #[.int .i64 te.t,.int .i64 te.m,.bool te.near]] w fun e w' => e=.returned (.bool (xH te))/\Below w.heap.size w w' := by
 obtain⟨T,M,near⟩:=te;unfold xH;dsimp only;have d1:=gU T 0 99;have d2:=gU M (-1000000) 1000000;generalize decide (0<=T/\T<=99)=F at *;generalize decide (-1000000<=M/\M<=1000000)=E at *;by_cases h1:T = -1000001
 ·subst h1;simp only[decide_true,Bool.true_or,Bool.true_and];by_cases D:M = -1000001
  ·subst D;simp only[decide_true,Bool.true_or]
   go_enter func210,ntmps210
   go_wp2
   go_ret;exact⟨rfl,(yv _ _).alloc (yr _) _⟩
  ·have I:(M == -1000001)=false:=beq_eq_false_iff_ne.2 D;simp only[yH D,Bool.false_or]
   cases E <;>
   ·go_enter func210,ntmps210
    go_wp2_with (go_at_call 66;refine(d2 _).mono ?_;rintro e w' ⟨rfl,rfl⟩)
    go_ret;exact⟨rfl,(yv _ _).alloc (yr _) _⟩
 ·have J:(T == -1000001)=false:=beq_eq_false_iff_ne.2 h1;simp only[yH h1,Bool.false_or]
  cases F with
  | false =>
   simp only[Bool.false_and]
   go_enter func210,ntmps210
   go_wp2_with (go_at_call 66;refine(d1 _).mono ?_;rintro e w' ⟨rfl,rfl⟩)
   go_ret;exact⟨rfl,(yv _ _).alloc (yr _) _⟩
  | true =>
   simp only[Bool.true_and];by_cases D:M = -1000001
   ·subst D;simp only[decide_true,Bool.true_or]
    go_enter func210,ntmps210
    go_wp2_with (go_at_call 66;refine(d1 _).mono ?_;rintro e w' ⟨rfl,rfl⟩)
    go_ret;exact⟨rfl,(yv _ _).alloc (yr _) _⟩
   ·have I:(M == -1000001)=false:=beq_eq_false_iff_ne.2 D;simp only[yH D,Bool.false_or]
    cases E <;>
    ·go_enter func210,ntmps210
     go_wp2_with (first|(go_at_call_of 66 (Value.int .i64 99);refine(d1 _).mono ?_;rintro e w' ⟨rfl,rfl⟩)|(go_at_call_of 66 (Value.int .i64 1000000);refine(d2 _).mono ?_;rintro e w' ⟨rfl,rfl⟩))
     go_ret;exact⟨rfl,(yv _ _).alloc (yr _) _⟩
def lZ:Nat->List Tst->Int
 | _,[]=>0
 | k,te :: r=>if xH te then (if decide (k=0) && te.near then 3 else lZ (k+1) r) else 2
def qE(q:List Tst):Int:=if decide (1<=(q.length:Int)/\(q.length:Int)<=6) then lZ 0 q else 1
theorem Fg{q:List Tst}{k:Nat}(h:k<q.length):q.drop k=tst q k :: q.drop (k+1):=PU h
theorem RS(qa:OA)(qc:Nat)(q:List Tst)(w:Wd)(hq:q.length<=9223372036854775807)(hQ:jM w qa q) :
  yO 200 #[.slice qa q.length qc] w fun e w' => e=.returned (.int .i64 (qE q))/\Below w.heap.size w w' := by
 have HQ:Hid (jM w qa q):=hQ;have d1:=gU (q.length:Int) 1 6;have DR:Hid (∀ k,k<q.length->lZ k (q.drop k)=if xH (tst q k) then (if decide (k=0) && (tst q k).near then 3 else lZ (k+1) (q.drop (k+1))) else 2):=fun k hk=>by rw[Fg hk];rfl
 have DE:Hid (lZ q.length (q.drop q.length)=0):=by show _=_;rw[List.drop_length];rfl
 unfold qE;clear hQ;have H0:Hid (lZ 0 q=lZ 0 (q.drop 0)):=rfl;generalize lZ 0 q=E at *;generalize hl:q.length=L at *;have U:Hid _:=hl;clear hl
 cases hb:decide (1<=(L:Int)/\(L:Int)<=6) with
 | false =>
  rw[hb] at d1;simp only[Bool.false_eq_true,if_false];clear hb
  go_enter func200,ntmps200
  go_wp2_with (go_at_call 66;refine(d1 _).mono ?_;rintro e w' ⟨rfl,F⟩;have M:=F.symm;clear F;subst M)
  go_ret;exact⟨rfl,yv _ _⟩
 | true =>
  rw[hb] at d1;simp only[if_true];clear hb
  go_enter func200,ntmps200
  go_wp2_with (go_at_call 66;refine(d1 _).mono ?_;rintro e w' ⟨rfl,F⟩;have M:=F.symm;clear F;subst M)
  go_loopg [11] L (fun g1 s11 wr=>∃ k:Nat,k<=L/\L-k<=g1/\s11=.int .i64 k/\Below w.heap.size w wr/\Hid (E=lZ k (q.drop k)))
  case atStart=>exact⟨0,by omega,by omega,rfl,yv _ _,H0⟩
  case round =>
   obtain⟨k,hk,a6,rfl,hb,O⟩:=hrel;by_cases Z:k<L
   ·have a5:(k:Int)<(L:Int):=(by omega);obtain⟨qb,qo,rfl,q0,q1,q2⟩:=(HQ.below hb) k (by rw[U.o];exact Z);have a8:=yi _ _ q0;have DK:=DR.o k (by omega);have d2:=fun W=>Ff (tst q k) W;generalize tst q k=te at *;generalize xH te=ok at *;obtain⟨tt,tm,tn⟩:=te;dsimp only at *;have J:Hid _:=DK;clear DK
    cases ok with
    | false =>
     have I:Hid (E=2):=by show _=_;rw[O.o,J.o];rfl
     go_wp2_with (go_at_call 210;refine(d2 _).mono ?_;rintro e w2 ⟨rfl,D⟩)
     go_ret;exact⟨by rw[I.o];rfl,hb.trans (((yv _ _).alloc (yr _) _ |>.trans (D.mono (by simp))).mono hb.size)⟩
    | true =>
     by_cases T:k=0
     ·subst T;simp only[Nat.zero_mul,Nat.add_zero] at q0 q1 q2
      cases tn with
      | true =>
       have I:Hid (E=3):=by show _=_;rw[O.o,J.o];rfl
       go_wp2_with (go_at_call 210;refine(d2 _).mono ?_;rintro e w2 ⟨rfl,D⟩;simp only[yw] at D;have c2:w2.cell? ⟨wr.heap.size,2,none⟩=some (.bool true):=(D.cell (by simp)).trans (by go_simp))
       go_ret;exact⟨by rw[I.o];rfl,hb.trans (((yv _ _).alloc (yr _) _ |>.trans (D.mono (by omega))).mono hb.size)⟩
      | false =>
       have I:Hid (E=lZ (0+1) (q.drop (0+1))):=by show _=_;rw[O.o,J.o];rfl
       go_wp2_with (go_at_call 210;refine(d2 _).mono ?_;rintro e w2 ⟨rfl,D⟩;simp only[yw] at D;have c2:w2.cell? ⟨wr.heap.size,2,none⟩=some (.bool false):=(D.cell (by simp)).trans (by go_simp))
       go_roundg (L-1)
       case measure=>omega
       case rel=>exact⟨0+1,by omega,by omega,by go_num,hb.trans (((yv _ _).alloc (yr _) _ |>.trans (D.mono (by omega))).mono hb.size),I⟩
     ·have a7:((k:Int) == 0)=false:=beq_eq_false_iff_ne.2 (by omega)
      have I:Hid (E=lZ (k+1) (q.drop (k+1))):=by
       show _=_;rw[O.o,J.o,yH T];rfl
      go_wp2_with (go_at_call 210;refine(d2 _).mono ?_;rintro e w2 ⟨rfl,D⟩)
      go_roundg (L-(k+1))
      case measure=>omega
      case rel=>exact⟨k+1,by omega,by omega,by go_num,hb.trans (((yv _ _).alloc (yr _) _ |>.trans (D.mono (by simp))).mono hb.size),I⟩
   ·have:k=L:=(by omega);subst this;have I:Hid (E=0):=by show _=_;rw[O.o,<- U.o];rw[<- U.o] at DE;exact DE.o
    go_wp2
    go_ret;exact⟨by rw[I.o];rfl,hb⟩
theorem Fh{q:List Tst}(h:qE q=0):1<=q.length/\q.length<=6:=by
 unfold qE at h
 split at h
 ·rename_i hb;have:=of_decide_eq_true hb;omega
 ·omega
theorem Fj{w w1:Wd}{p u:Int}(hb:Below (w.heap.size+1+1) ((w.alloc (.cells #[.slice a n c] 43)).alloc (.cells #[.int .i64 p,.int .i64 u] 61)) w1) :
  w1.cell? ⟨w.heap.size,0,none⟩=some (.slice a n c)/\w1.cell? ⟨w.heap.size+1,0,none⟩=some (.int .i64 p)/\w1.cell? ⟨w.heap.size+1,1,none⟩=some (.int .i64 u)/\Below w.heap.size w w1/\w.heap.size<w1.heap.size/\w.heap.size+1<w1.heap.size:=by
 refine⟨?_,?_,?_,(jX _ _ _).trans (hb.mono (by omega)),by have:=hb.size;simp at this;omega,by have:=hb.size;simp at this;omega⟩
 all_goals exact(hb.cell (by first|(simp;done)|(simp;omega))).trans (by go_simp)
def oP(S:List Nd)(k:Nat)(q:List Tst):List Int:=(bE S k).tail.filter fun p=>gY S p q
theorem Fp(a:OA)(c:Nat)(S:List Nd)(p u E:Int)(qv:Value)(w:Wd)(Z:S.length<=9223372036854775807)(J:Big S)(O:aD w a S)(M:dH S [(p,u)]=E)(F:E≠0) :
  yO 189 #[.agg #[.slice a S.length c],.agg #[.int .i64 p,.int .i64 u],qv] w fun e w' => e=.returned (.tuple #[.slice none 0 0,.int .i64 E])/\Below w.heap.size w w' := by
 have T:Hid (∀ W,aD W a S->Calls _ _ _ _ _):=fun W hW=>Bp a c S p u E W Z J hW M F;have U:Hid (aD w a S):=O;have hz:(E == 0)=false:=by simp[F]
 clear O J M;generalize S.length=n at *
 go_enter func189,ntmps189
 go_wp2_with fail
 refine(T _ (U.below (jX _ _ _))).mono ?_;rintro e w1 ⟨rfl,D⟩;simp only[yw] at D;have I:Hid (Bl w w1):=(jX _ _ _).trans (D.mono (by omega));clear D
 go_wp2
 go_ret2
 exact⟨rfl,I.o⟩
theorem Fq(a:OA)(c:Nat)(S:List Nd)(k:Nat)(u E:Int)(qa:OA)(qc:Nat)(q:List Tst)(w:Wd)(wf:WF S)(T:k<S.length)(hT:dH S [((k:Int),u)]=0)(hS:aD w a S)(U:q.length<=9223372036854775807)(hQ:jM w qa q)(hE:qE q=E)(M:E≠0) :
  yO 189 #[.agg #[.slice a S.length c],.agg #[.int .i64 (k:Int),.int .i64 u],.slice qa q.length qc] w fun e w' => e=.returned (.tuple #[.slice none 0 0,.int .i64 E])/\Below w.heap.size w w' := by
 have hN:=wf.small;have Z:=wf.big;have D1:Hid (∀ W,aD W a S->Calls _ _ _ _ _):=fun W O=>IG a c S k S.length u W (by omega) Z O hT T (wf.deep_all T) (by have:=uD wf T;omega);have d2:=fun W (O:jM W qa q)=>RS qa qc q W U O;rw[hE] at d2;have D2:Hid _:=d2;have HS:Hid (aD w a S):=hS;have HQ:Hid (jM w qa q):=hQ;have hz:(E == 0)=false:=by simp[M]
 clear hS hQ d2 hE Z wf hT;generalize (bZ S S.length k).length=OL at *;generalize S.length=n at *;generalize q.length=L at *
 go_enter func189,ntmps189
 go_wp2_with fail
 refine(D1 _ (HS.below (jX _ _ _))).mono ?_;rintro e w1 ⟨sa,cap,rfl,F,_⟩;simp only[yw] at F;have D:Hid (Bl w w1):=(jX _ _ _).trans (F.mono (by omega));clear F
 go_wp2_with fail
 refine(D2 _ (HQ.below D)).mono ?_;rintro e w2 ⟨rfl,I⟩;have J:Hid (Bl w w2):=D.trans (I.mono D.size);clear I
 go_wp2
 go_ret2
 exact⟨rfl,J.o⟩
theorem Fs(f:Int->Bool)(l:List Int)(k:Nat)(h:k<l.length):(l.take (k+1)).filter f=(l.take k).filter f++(if f (l.getD k 0) then [l.getD k 0] else []):=by
 rw[List.take_add_one,List.filter_append,List.getElem?_eq_getElem h,aJ l 0 h];simp only[Option.toList,List.filter_cons,List.filter_nil]
theorem Fu(a:OA)(c:Nat)(S:List Nd)(k:Nat)(u:Int)(qa:OA)(qc:Nat)(q:List Tst)(w:Wd)(wf:WF S)(hk:k<S.length)(h3:(nd S k).u=true)(hT:dH S [((k:Int),u)]=0)(hS:aD w a S)(hQ:jM w qa q)(hq:qE q=0) :
  yO 189 #[.agg #[.slice a S.length c],.agg #[.int .i64 (k:Int),.int .i64 u],.slice qa q.length qc] w fun e w' => ∃ fa fc,e=.returned (.tuple #[.slice fa (oP S k q).length fc,.int .i64 0])/\Below w.heap.size w w' /\ aG w' fa (oP S k q)/\(oP S k q).length<=24/\∀ x:Addr,fa=some x->w.heap.size<=x.block:=by
 have hN:=wf.small;have hB:=wf.big;have hlen:=Fh hq;have b5:=Dq wf hk h3;have D1:Hid (∀ W,aD W a S->Calls _ _ _ _ _):=fun W hW=>IG a c S k S.length u W (by omega) hB hW hT hk (wf.deep_all hk) (by have:=uD wf hk;omega);have d2:=fun W (hW:jM W qa q)=>RS qa qc q W (by omega) hW;rw[hq] at d2;have D2:Hid _:=d2;have D3:Hid (∀ (p:Nat) W,p<S.length->aD W a S->jM W qa q->Calls _ _ _ _ _):=fun p W hp h1 h2=>Fe a c S p qa qc q W wf hp h1 hlen.2 h2;have HS:Hid (aD w a S):=hS;have HQ:Hid (jM w qa q):=hQ
 have d7:Hid (∀ i,i<(bE S k).tail.length->∃ p:Nat,(bE S k).tail.getD i 0=p/\p<S.length):=fun i hi=>by
  rw[List.length_tail] at hi;obtain⟨p,e,hp,_⟩:=b5.each (i+1) (by omega);refine⟨p,?_,hp⟩;rw[<- e,aJ _ _ (by rw[List.length_tail];omega),aJ _ _ (by omega),List.getElem_tail]
 have b7:=b5.pos;have e5:=b5.small
 have TL:Hid (∀ W sa,aG W sa (bE S k)->∃ b o,sa=some ⟨b,o,none⟩/\aG W (some ⟨b,o+1,none⟩) (bE S k).tail):=fun W sa h=>by
  obtain⟨b,o,e,_⟩:=h 0 b7;refine⟨b,o,e,fun i hi=>⟨b,o+1,rfl,?_⟩⟩;rw[List.length_tail] at hi;obtain⟨b', o', e', hc⟩:=h (i+1) (by omega);rw[e] at e'
  cases e'
  rw[show o+1+i=o+(i+1) by omega,hc,aJ _ _ (by omega),aJ _ _ (by rw[List.length_tail];omega),List.getElem_tail]
 have FT:Hid (∀ i,i<(bE S k).tail.length->((bE S k).tail.take (i+1)).filter (fun p=>gY S p q)=((bE S k).tail.take i).filter (fun p=>gY S p q)++(if gY S ((bE S k).tail.getD i 0) q then [(bE S k).tail.getD i 0] else [])):=fun i hi=>Fs _ _ i hi;have FE:Hid (oP S k q=((bE S k).tail.take (bE S k).tail.length).filter (fun p=>gY S p q)):=by show _=_;rw[List.take_length];rfl
 have FL:Hid (∀ i,(((bE S k).tail.take i).filter (fun p=>gY S p q)).length<=24):=fun i=>by
  refine yJ (List.length_filter_le _ _) ?_;rw[List.length_take,List.length_tail];omega
 have c7:(bZ S S.length k).length=(bE S k).tail.length+1:=by rw[List.length_tail];show (bE S k).length=_;omega
 clear hS hQ d2 hq hB wf hT b5 b7 e5;rw[show bZ S S.length k=bE S k from rfl] at D1 c7;rw[c7] at D1;clear c7;generalize oP S k q=R at *;generalize hn:S.length=n at *;have HN:Hid _:=hn;clear hn;generalize hl:q.length=L at *;have HL:Hid _:=hl;clear hl;generalize e4:(bE S k).tail.length=T at *;have d9:Hid _:=e4;clear e4;obtain⟨i0,g9,h8,h9,i1⟩:=info_parts info3
 go_enter func189,ntmps189
 go_wp2_with fail
 refine(D1 _ (HS.below (jX _ _ _))).mono ?_;rintro e w1 ⟨sa,cap,rfl,b4,e0,c9,d4⟩;simp only[yw] at b4;obtain⟨l0,l1,l2,l3,r0,r1⟩:=Fj b4;have i7:Hid _:=b4;have c6:Hid _:=l3;obtain⟨ob,oo,h7,b6⟩:=TL.o _ _ e0;subst h7;have d8:Hid (aG w1 (some ⟨ob,oo+1,none⟩) (bE S k).tail):=b6;clear b4 l3 e0 b6
 go_wp2_with fail
 refine(D2 _ (HQ.below c6)).mono ?_;rintro e w2 ⟨rfl,a9⟩;have i8:=a9.size;have J:Hid (Bl w w2):=c6.trans (a9.mono c6.size);have e7:Hid (aG w2 (some ⟨ob,oo+1,none⟩) (bE S k).tail):=d8.below a9;have b0:=(a9.cell (yi _ _ l0)).trans l0;have b1:=yi _ _ b0;have b9:Hid (w.heap.size<w2.heap.size):=b1;clear a9 l0 l1 l2 r0 r1 d8;by_cases g0:cap=1
 ·subst g0;have e1:T=0:=by omega
  have e2:(bE S k).tail=[]:=List.length_eq_zero_iff.1 (by rw[d9.o];exact e1);have e8:Hid _:=e2;clear e2 c9 d4;have HT:Hid (aG w2 (some ⟨ob,oo,none⟩) (bE S k).tail):=(show Hid _ by rw[e8.o];exact(fun i hi=>absurd hi (yB _)))
  go_wp2
  go_loopg [11,31] T (fun g1 s11 s31 wr=>∃ (j:Nat),j<=T/\T-j<=g1/\s31=.int .i64 j/\Hid (Bl w2 wr)/\wr.cell? ⟨w.heap.size,0,none⟩=some (.slice a n c)/\w.heap.size<wr.heap.size/\Hid (wr.ownsRow w2.heap.size 3 1 s11 (((bE S k).tail.take j).filter (fun p=>gY S p q)).length ((((bE S k).tail.take j).filter (fun p=>gY S p q)).map (Value.int .i64))))
  case atStart=>exact⟨0,by omega,by omega,rfl,yv _ _,b0,b1,World.ownsRow_nil _ _ _ _⟩
  case round =>
   obtain⟨j,hj,g8,rfl,U,hc,g7,a5⟩:=hrel;clear b0 b1;obtain⟨pa,pc,hv,F,M⟩:=uI a5.o;have HI:Hid _:=F
   have HK:Hid (∀ x:Addr,pa=some x->w.heap.size<=x.block):=fun x hx=>by
    have h1:=(M x.block (by rw[hv,hx];rfl)).1;have h2:w.heap.size<w2.heap.size:=b9.o;omega
   clear F M;by_cases d6:j<T
   ·exact absurd d6 (by omega)
   ·have d5:j=T:=(by omega);subst d5
    have FR:Hid (R=((bE S k).tail.take j).filter (fun p=>gY S p q)):=by
     show _=_;rw[FE.o]
    have O:=FL.o j;rw[<- FR.o] at hv HI O;have b8:Hid (Bl w wr):=J.trans (U.mono J.size);rw[hv];clear hv;generalize a8:R.length=RL at O |-;have a6:Hid _:=a8;clear a8
    go_wp2
    go_ret2
    exact⟨pa,pc,by rw[a6.o];rfl,b8.o,HI.o,by rw[a6.o];exact O,HK.o⟩
 ·have g5:(1:Int)<=(cap:Int):=by omega
  have g6:¬ ((cap:Int)=1):=by omega
  have HT:Hid (aG w2 (some ⟨ob,oo+1,none⟩) (bE S k).tail):=e7
  go_wp2
  go_loopg [11,31] T (fun g1 s11 s31 wr=>∃ (j:Nat),j<=T/\T-j<=g1/\s31=.int .i64 j/\Hid (Bl w2 wr)/\wr.cell? ⟨w.heap.size,0,none⟩=some (.slice a n c)/\w.heap.size<wr.heap.size/\Hid (wr.ownsRow w2.heap.size 3 1 s11 (((bE S k).tail.take j).filter (fun p=>gY S p q)).length ((((bE S k).tail.take j).filter (fun p=>gY S p q)).map (Value.int .i64))))
  case atStart=>exact⟨0,by omega,by omega,rfl,yv _ _,b0,b1,World.ownsRow_nil _ _ _ _⟩
  case round =>
   obtain⟨j,hj,g8,rfl,U,hc,g7,a5⟩:=hrel;clear b0 b1;obtain⟨pa,pc,hv,F,M⟩:=uI a5.o;have HI:Hid _:=F
   have HK:Hid (∀ x:Addr,pa=some x->w.heap.size<=x.block):=fun x hx=>by
    have h1:=(M x.block (by rw[hv,hx];rfl)).1;have h2:w.heap.size<w2.heap.size:=b9.o;omega
   clear F M;by_cases d6:j<T
   ·have i4:(j:Int)<(T:Int):=(by omega);obtain⟨tb,j0,ee,tc⟩:=(HT.below U) j (by rw[d9.o];exact d6);cases ee;obtain⟨p,hp,h4⟩:=d7.o j (by omega);have i9:=yi _ _ tc;have FJ:=FT.o j (by omega);rw[hp] at tc FJ;have D:Hid _:=D3.o p wr h4 (HS.below (J.trans (U.mono J.size))) (HQ.below (J.trans (U.mono J.size)));have b3:Hid _:=FJ;have i6:=FL.o j;clear FJ hp;generalize hA:((bE S k).tail.take j).filter (fun p=>gY S p q)=A at *;have HA:Hid _:=hA;clear hA
    cases hso:gY S p q with
    | false =>
     rw[hso] at D b3
     have F2:Hid (((bE S k).tail.take (j+1)).filter (fun p=>gY S p q)=A):=by
      show _=_;rw[b3.o];simp
     clear hso hv
     go_wp2_with fail
     refine yj D.o ?_;rintro e w3 ⟨rfl,E⟩;have c8:=(E.cell (yi _ _ hc)).trans hc;have Z:Hid (Bl w2 w3):=U.trans (E.mono U.size)
     have a7:Hid (w3.ownsRow w2.heap.size 3 1 u11 A.length (A.map (Value.int .i64))):=a5.kept (row:=none) ⟨E.os,E.tape,E.output,E.size,fun k hk _=>E.block k hk⟩ (by
      cases hv:u11.ownBlock with
      | none=>exact Or.inl rfl
      | some k=>exact Or.inr (fun e=>by cases e))
     have i2:=E.size;clear E
     go_wp2
     go_roundg (T-(j+1))
     case measure=>omega
     case rel=>exact⟨j+1,by omega,by omega,by go_num,Z,c8,by omega,by rw[F2.o];exact a7⟩
    | true =>
     rw[hso] at D b3
     have F2:Hid (((bE S k).tail.take (j+1)).filter (fun p=>gY S p q)=A++[(p:Int)]):=by
      show _=_;rw[b3.o];simp
     clear hso hv
     go_wp2_with fail
     refine yj D.o ?_;rintro e w3 ⟨rfl,E⟩;have c8:=(E.cell (yi _ _ hc)).trans hc;have Z:Hid (Bl w2 w3):=U.trans (E.mono U.size)
     have a7:Hid (w3.ownsRow w2.heap.size 3 1 u11 A.length (A.map (Value.int .i64))):=a5.kept (row:=none) ⟨E.os,E.tape,E.output,E.size,fun k hk _=>E.block k hk⟩ (by
      cases hv:u11.ownBlock with
      | none=>exact Or.inl rfl
      | some k=>exact Or.inr (fun e=>by cases e))
     have i2:=E.size;have i5:=U.size;have i3:w.heap.size<w3.heap.size:=(by omega);clear E
     go_wp2_with (at_builtin;refine wpList_append_own _ rfl _ _ 48 rfl w2.heap.size 3 i0 (.int .i64 0) 1 8 underlying48 g9 h8 h9 i1 rfl (by decide) _ _ _ rfl (a7.alloc _) ⟨w3.heap.size,0,none⟩ 1 1 [.int .i64 (p:Int)] rfl rfl ?c1 ?c2 ?c3 ?c4 ?c5 ?_)
     case c1 =>
      intro i u hi
      match i,hi with
      | 0,hi=>simp at hi;subst hi;simp[Addr.add]
     case c2=>intro u hu;simp at hu;subst hu;rfl
     case c3=>unfold maxLen;omega
     case c4=>omega
     case c5=>simp;omega
     intro v' w4 b2 I _;have e6:Hid (Bl w2 w4):=(Z.alloc Z.size _).grown I (by simp;have:=Z.size;omega) (fun k hk=>(a7.lt k hk).1)
     have g4:w4.cell? ⟨w.heap.size,0,none⟩=some (.slice a n c):=by
      have h1:=nO c8 (.cells #[.int .i64 (p:Int)] 3);exact(yE (I.block _ (by simp;omega) (fun e=>by have h5:w2.heap.size<=w.heap.size:=(a7.lt _ e.symm).1;have h6:w.heap.size<w2.heap.size:=b9.o;omega))).trans h1
     have e3:w.heap.size<w4.heap.size:=by have:=I.size;simp at this;omega
     have e9:Hid (w4.ownsRow w2.heap.size 3 1 v' (A++[(p:Int)]).length ((A++[(p:Int)]).map (Value.int .i64))):=by
      show _;rw[List.length_append,List.map_append];exact b2
     clear b2 I
     go_wp2
     go_roundg (T-(j+1))
     case measure=>omega
     case rel=>exact⟨j+1,by omega,by omega,by go_num,e6,g4,e3,by rw[F2.o];exact e9⟩
   ·have d5:j=T:=(by omega);subst d5
    have FR:Hid (R=((bE S k).tail.take j).filter (fun p=>gY S p q)):=by
     show _=_;rw[FE.o]
    have O:=FL.o j;rw[<- FR.o] at hv HI O;have b8:Hid (Bl w wr):=J.trans (U.mono J.size);rw[hv];clear hv;generalize a8:R.length=RL at O |-;have a6:Hid _:=a8;clear a8
    go_wp2
    go_ret2
    exact⟨pa,pc,by rw[a6.o];rfl,b8.o,HI.o,by rw[a6.o];exact O,HK.o⟩
theorem Gl:(prog.info? 254).map (fun i=>(i.zero,i.size,i.bytes))=some (some (.agg #[.int .i64 0,.int .i64 0,.slice none 0 0]),3,40):=by kernel_rfl
def jN(s:Slt)(v:Value):List Value:=[.int .i64 s.pl,.int .i64 s.num,v]
def qG(L:List Slt)(K:Nat->Value):List Value:=(List.range L.length).flatMap fun i=>jN (slt L i) (K i)
theorem SN{s:Slt}(h:i<L.length):slt (L++[s]) i=slt L i:=by
 rw[rT (by simp;omega),rT h,List.getElem_append_left h]
theorem SQ(L:List Slt)(s:Slt):slt (L++[s]) L.length=s:=by
 rw[rT (by simp)];simp
theorem Gm(L:List Slt)(K:Nat->Value)(s:Slt)(v:Value):qG L K++jN s v=qG (L++[s]) (fun i=>if i=L.length then v else K i):=by
 unfold qG;rw[List.length_append,List.length_singleton,List.range_succ,List.flatMap_append]
 congr 1
 ·refine Cj (fun x E=>?_);have D:=List.mem_range.1 E;have:x≠L.length:=by omega
  simp only[yd this];rw[SN D]
 ·simp[SQ]
def eX(B:Nat)(L:List Slt)(K:Nat->Value)(v:Value)(w:Wd):Prop :=
 w.ownsRow B 254 3 v L.length (qG L K)/\∀ i,i<L.length->w.ownsRow B 3 1 (K i) (slt L i).gv.length ((slt L i).gv.map (Value.int .i64))
theorem eX.other(h:eX B L K v w)(hb:∀ b,B<=b->b<w.heap.size->w'.heap[b]?=w.heap[b]?):eX B L K v w' :=
 ⟨fG h.1 (fun k D=>hb k (h.1.lt k D).1 (h.1.lt k D).2),fun i hi=>fG (h.2 i hi) (fun k D=>hb k ((h.2 i hi).lt k D).1 ((h.2 i hi).lt k D).2)⟩
theorem eX.below(h:eX B L K v w)(hb:Bl w w'):eX B L K v w' := h.other (fun b _ D=>hb.block b D)
theorem eX.base{B':Nat}{w:Wd}(h:eX B L K v w)(D:B' <= B):eX B' L K v w:=⟨kW h.1 D,fun i hi=>kW (h.2 i hi) D⟩
theorem BN(L:List Slt)(K:Nat->Value):∀ q,((List.range q).flatMap fun i=>jN (slt L i) (K i)).length=q*3
 | 0=>rfl
 | q+1=>by rw[List.range_succ,List.flatMap_append,List.length_append,BN L K q];simp[jN];omega
theorem JJ(L:List Slt)(K:Nat->Value)(D:j<3):∀ {q:Nat},i<q->((List.range q).flatMap fun i=>jN (slt L i) (K i))[i*3+j]?=(jN (slt L i) (K i))[j]?
 | 0,hi=>by omega
 | q+1,hi=>by
  rw[List.range_succ,List.flatMap_append];by_cases e:i<q
  ·rw[List.getElem?_append_left (by rw[BN];omega)];exact JJ L K D e
  ·have:i=q:=(by omega);subst this;rw[List.getElem?_append_right (by rw[BN];omega),BN,show i*3+j-i*3=j by omega];simp
theorem eX.slts{w:Wd}(h:eX B L K v w):∃ a c,v=.slice a L.length c/\nR w a L:=by
 obtain⟨E,O⟩:=h;have D:=E;obtain⟨hl,h⟩:=E;rcases h with ⟨rfl,h0⟩ |⟨g,cap,F,rfl,hb,hg,h1,T,U,Z⟩
 ·exact⟨none,0,by rw[h0],fun i hi=>by omega⟩
 ·refine⟨some ⟨g,0,none⟩,cap,rfl,fun i hi=>⟨g,0,rfl,?_⟩⟩
  have hc:∀ j,j<3->w.cell? ⟨g,i*3+j,none⟩=(jN (slt L i) (K i))[j]?:=fun j M=>by
   rw[<- JJ L K M hi];exact D.cellAt (i*3+j) (by omega)
  obtain⟨sa,sc,I,J⟩:=tO (O i hi);rw[yD];refine⟨hc 0 (by omega),hc 1 (by omega),sa,sc,?_,J⟩;rw[hc 2 (by omega),I];rfl
theorem eX.step{wr wp w3:Wd}{v1 v2:Value}{s:Slt}{o3:Obj}(I:eX B L K v wr)(hB:B<=wr.heap.size)(hs:wr.heap.size<=wp.heap.size)
  (e:∀ k,k<wr.heap.size->wp.heap[k]?=wr.heap[k]?) (E:wp.ownsRow wr.heap.size 3 1 v1 s.gv.length (s.gv.map (Value.int .i64)))
  (h3:(wp.alloc o3).grownBy w3 v.ownBlock) (M:w3.ownsRow B 254 3 v2 (L.length+1) (qG L K++jN s v1)) :
  eX B (L++[s]) (fun i=>if i=L.length then v1 else K i) v2 w3:=by
 obtain⟨Z,D⟩:=I
 have T:∀ k,k<wp.heap.size->v.ownBlock≠some k->w3.heap[k]?=wp.heap[k]?:=fun k D O =>
  (h3.block k (by simp;omega) (fun e=>O e.symm)).trans (Below.heap_alloc _ _ _ D)
 refine⟨?_,fun i hi=>?_⟩
 ·rw[<- Gm,List.length_append,List.length_singleton];exact M
 ·rw[List.length_append,List.length_singleton] at hi;by_cases U:i=L.length
  ·subst U;simp only[if_true];rw[SQ];refine fG (kW E hB) (fun k D=>?_);have hl:=E.lt k D;exact T k hl.2 (fun ek=>by have:=(Z.lt k ek).2;omega)
  ·simp only[yd U];have J:i<L.length:=(by omega);rw[SN J];have F:=D i J;refine fG F (fun k D=>?_);have hl:=F.lt k D;exact(T k (by omega) (wL F Z (by decide) k D)).trans (e k hl.2)
theorem SS{W:Wd}{b:Nat}{s:Slt}(c0:W.cell? ⟨b,0,none⟩=some (.int .i64 s.pl))(c1:W.cell? ⟨b,1,none⟩=some (.int .i64 s.num))(c2:W.cell? ⟨b,2,none⟩=some v):∀ j u,(jN s v)[j]?=some u->W.cell? ((⟨b,0,none⟩:Addr).add j)=some u:=fun j u D=>by
 unfold jN at D;rw[Addr.add_lit]
 match j,D with
 | 0,D=>cases D;exact c0
 | 1,D=>cases D;exact c1
 | 2,D=>cases D;exact c2
theorem SV{s:Slt}:∀ u ∈ jN s (.slice a n c),u.oneCell' = true:=fun u D=>by
 unfold jN at D;simp at D;rcases D with rfl|rfl|rfl <;> rfl
theorem Gn(a:OA)(c:Nat)(S:List Nd)(H:Int)(w:Wd)(M:S.length<=9223372036854775807)(F:aD w a S)(I:dA S H = -1) :
  yO 214 #[.agg #[.slice a S.length c],.int .i64 H] w fun e w' => e=.returned (.slice none 0 0)/\Below w.heap.size w w' := by
 have d:=fun(W:Wd) (O:aD W a S)=>uC a c S H W M O;rw[I] at d;have D:Hid _:=d;have J:Hid (aD w a S):=F;clear d F I;generalize S.length=n at *
 go_enter func214,ntmps214
 go_wp2_with fail
 refine yj (D _ (J.below ((yv _ _).alloc (yr _) _))) ?_;rintro e w1 ⟨rfl,hb⟩;have E:Hid (Bl w w1):=((yv _ _).alloc (yr _) _).trans (hb.mono (by simp));clear hb
 go_wp2_with fail
 go_ret;exact⟨rfl,E.o⟩
theorem WF.used_host(h:WF S){r:Nat}(E:r<S.length)(hh:(nd S r).h≠-1):(nd S r).u=true:=by
 have D:=(jY (h.node r E)).2.2;unfold gV at D
 split at D
 ·rename_i F;exact F
 ·have:=of_decide_eq_true D;omega
theorem Gp(hi:i<P.length){y:Nat}(D:P.getD i 0=y):dM S H (P.take (i+1))=oQ S H (dM S H (P.take i)) (y:Int):=by
 rw[List.take_succ_eq_append_getElem hi,BK];rw[aJ P 0 hi] at D;rw[D]
theorem Gq(i:Nat)(F:P.length<=24):(dM S H (P.take i)).length<=24:=by
 have h1:=SF S H (P.take i);have D:=List.length_take_le i P;have E:=List.length_take_le' i P;omega
theorem Gr(a:OA)(c:Nat)(S:List Nd)(H r:Nat)(w:Wd)(wf:WF S)(hB:Big S)(hH:H<S.length)(hr:r<S.length)(er:dA S H=r)(hh:(nd S r).h=H)(hS:aD w a S) :
  yO 214 #[.agg #[.slice a S.length c],.int .i64 (H:Int)] w fun e w' => ∃ v K,e=.returned v/\Below w.heap.size w w' /\ eX w.heap.size (fC S H) K v w' := by
 obtain⟨i0,d9,e5,e6,e7⟩:=info_parts Gl;have hN:=wf.small;have hu:=wf.used_host hr (by omega)
 have g6:Hid (fC S H=dM S H (bZ S S.length r)):=by
  show _=_;unfold fC;rw[er,yd (by omega),yk]
 have d:=fun(W:Wd) (hW:aD W a S)=>uC a c S (H:Int) W (by omega) hW;rw[er] at d;have D:Hid _:=d;have DO:Hid (∀ W,aD W a S->Calls _ _ _ _ _):=fun W hW=>IG a c S r S.length (nd S r).n W (by omega) hB hW (Dv hr hu rfl wf) hr (wf.deep_all hr) (by have:=uD wf hr;omega);have KM:Hid (∀ (mk:Int) W,aD W a S->Calls _ _ _ _ _):=fun mk W hW=>Fz a c S H mk W hH (by have:=wf.kids_small hH;omega) (fun y hy=>by obtain⟨k,e,E,_⟩:=wf.kid hH hy;exact⟨k,e,E⟩) hW;have HS:Hid (aD w a S):=hS
 have TT:Hid (∀ y,y<S.length->0<=(nd S y).t/\(nd S y).t<=99):=fun y hy=>by
  have h1:=(jY (wf.node y hy)).1;unfold iO at h1;simp at h1;omega
 have PL:Hid (∀ y ∈ bZ S S.length r,∃ x:Nat,y=x/\x<S.length):=fun y hy=>by
  obtain⟨q,e,hq,_⟩:=qD wf hr (wf.deep_all hr) y hy;exact⟨q,e,hq⟩
 have d7:(bZ S S.length r).length<=24:=by have:=uD wf hr;omega
 clear d hS hu er hB wf;generalize bZ S S.length r=P at *;obtain⟨m,hm⟩:∃ m,P.length=m:=⟨_,rfl⟩;have HM:Hid (P.length=m):=hm;rw[hm] at DO d7;obtain⟨n,hn⟩:∃ n,S.length=n:=⟨_,rfl⟩;have HN:Hid (S.length=n):=hn;rw[hn] at hN hH hr D DO KM TT PL |-;have i3:(H:Int)<(n:Int):=by omega
 have i5:(r:Int)<(n:Int):=by omega
 have i6:((r:Int) == -1)=false:=by simp
 have i7:decide ((r:Int) = -1)=false:=by simp
 clear hn hm
 go_enter func214,ntmps214
 go_wp2_with fail
 refine yj (D _ (HS.below ((yv _ _).alloc (yr _) _))) ?_;rintro e w1 ⟨rfl,d8⟩;have F:=d8;simp only[yw] at F;have h8:=F.size;simp only[yw] at h8;have l0:w1.cell? ⟨w.heap.size,0,none⟩=some (.slice a n c):=(F.cell (by simp)).trans (by go_simp);have a8:Hid (Bl w w1):=((yv _ _).alloc (yr _) _).trans (F.mono (by omega));obtain⟨nb,no,ea,_,c1,_⟩:=(HS.below a8) r (by rw[HN.o];exact hr);subst ea;have q0:=yi _ _ l0;have q1:=yi _ _ c1;clear d8 F D;generalize (nd S r).n=U at *
 go_wp2_with fail
 go_region_held3 (fun e8=>e8.cell? ⟨w.heap.size,0,none⟩=some (.slice (some ⟨nb,no,none⟩) n c)/\e8.cell? ⟨nb,no+r*8+1,none⟩=some (.int .i64 U)) (go_keep) (first|(go_at_call 199;refine(yj (DO _ ?nd) ?_);(case nd=>exact HS.below a8.drew);rintro e w2 ⟨sa,cap,rfl,Z,hI,g8,g9⟩;have d4:Hid (Bl w w2):=a8.drew.trans (Z.mono a8.size);have l2:w2.cell? ⟨w.heap.size,0,none⟩=some (.slice (some ⟨nb,no,none⟩) n c):=(Z.cell (by exact q0)).trans l0;have d1:w2.cell? ⟨nb,no+r*8+1,none⟩=some (.int .i64 U):=(Z.cell (by exact q1)).trans c1;have s2:w.heap.size<w2.heap.size:=yC q0 Z.size;have s3:nb<w2.heap.size:=yC q1 Z.size;have HI:Hid (aG w2 sa P):=hI;clear Z hI g8 g9))
 go_wp2_with fail
 go_loopg [8,33] m (fun g s8 s33 wr=>∃ (i:Nat) (K:Nat->Value),i<=m/\m-i<=g/\s33=.int .i64 i/\Hid (Bl w2 wr)/\wr.cell? ⟨w.heap.size,0,none⟩=some (.slice (some ⟨nb,no,none⟩) n c)/\w2.heap.size<=wr.heap.size/\Hid (eX w2.heap.size (dM S H (P.take i)) K s8 wr))
 case atStart=>exact⟨0,fun _=>.slice none 0 0,by omega,by omega,rfl,yv _ _,l2,yr _,(show eX w2.heap.size (dM S H []) _ _ w2 from ⟨World.ownsRow_nil _ _ _ _,fun i hi=>by cases hi⟩)⟩
 case round =>
  obtain⟨i,K,hi,hg,rfl,HB,cs,b3,HO⟩:=hrel;clear l2;have HF:Hid ((dM S H (P.take i)).length<=24):=Gq i (by rw[HM.o];exact d7);obtain⟨qa,qc,hv,c9⟩:=HO.slts;subst hv;have b0:Hid (Bl w wr):=d4.trans (HB.mono d4.size);by_cases c7:i<m
  ·obtain⟨y,hy,e4⟩:=PL.o (P.getD i 0) (by rw[aJ P 0 (by rw[HM.o];exact c7)];exact List.getElem_mem _);obtain⟨pb,po,ep,h7⟩:=(HI.below HB) i (by rw[HM.o];exact c7);subst ep;rw[hy] at h7;obtain⟨i9,j0,ea,_,_,c2,_⟩:=(HS.below b0) y (by rw[HN.o];exact e4);cases ea;have i8:(y:Int)<(n:Int):=(by omega);have i4:(i:Int)<(m:Int):=(by omega);have NX:Hid (dM S H (P.take (i+1))=oQ S H (dM S H (P.take i)) (y:Int)):=Gp (by rw[HM.o];exact c7) hy;have ht:=TT.o y e4;have HT:Hid (mV S (y:Int)=(nd S y).t-90):=(by show _=_;unfold mV;rw[yk]);clear hy;generalize (nd S y).t=T at *;obtain⟨Q,hQ⟩:∃ Q,T-90=Q:=⟨_,rfl⟩;have hw:IntKind.i64.wrap (T-90)=Q:=(by rw[hQ];have:=hQ;unfold IntKind.wrap;simp[IntKind.bits,IntKind.signed];omega);have g5:Hid (nR wr qa (dM S H (P.take i))):=c9;clear c9;generalize dM S H (P.take i)=L at *;have hF:=HF.o;have hc:=fun(W:Wd) (hW:nR W qa L) (hq:W.cell? ⟨wr.heap.size,0,none⟩=some (.int .i64 Q))=>Gj qa qc L wr.heap.size Q W (by omega) hW hq;have a6:=fun(wp w3:Wd) (v1 v2:Value) (s:Slt) (o3:Obj)=>eX.step (wp:=wp) (w3:=w3) (v1:=v1) (v2:=v2) (s:=s) (o3:=o3) HO.o b3;obtain⟨ln,c6⟩:∃ z,L.length=z:=⟨_,rfl⟩;have g0:Hid (L.length=ln):=c6;rw[c6] at HO HF hc a6 hF |-;have HC:Hid _:=hc;have d6:Hid _:=a6;clear c6 hc a6;by_cases i2:Q<0
   ·have EQ:Hid (dM S H (P.take (i+1))=L):=by
     show _=_;rw[NX.o];unfold oQ;rw[ye (by rw[HT.o];omega)]
    go_wp2_with fail
    go_roundg (m-(i+1))
    case measure=>omega
    case rel=>exact⟨i+1,K,by omega,by omega,by go_num,HB.trans ((aB _ _).mono b3),aA cs (aB _ _),by simp;omega,(show eX _ (dM S H (P.take (i+1))) K (.slice qa ln qc) _ by rw[EQ.o];exact HO.below (aB _ _))⟩
   ·have EQ:Hid (dM S H (P.take (i+1))=L++[⟨(y:Int),Q,if L.any (fun s=>decide (s.num=Q)) then [] else iZ S H Q⟩]):=by
     show _=_;rw[NX.o];unfold oQ;rw[HT.o,hQ,yd (by omega)]
    clear NX HT
    have OM:Hid (∀ (W:Wd) (o3:Obj),(∀ k,k<wr.heap.size->W.heap[k]?=wr.heap[k]?)->wr.heap.size<=W.heap.size->(W.alloc o3).ownsRow w2.heap.size 254 3 (.slice qa ln qc) ln (qG L K)):=fun W o3 h1 h2=>by
     have h3:=HO.o.1;rw[g0.o] at h3;exact fG h3 (fun k E=>(Below.heap_alloc _ _ _ (by have:=(h3.lt k E).2;omega)).trans (h1 k (h3.lt k E).2))
    have OB:Hid (∀ k,(Value.slice qa ln qc).ownBlock=some k->w2.heap.size<=k):=fun k E=>(HO.o.1.lt k E).1
    go_wp2_with fail
    refine yj (HC _ (g5.below (aM _ _ _)) (fE wr _ _ 0 _ rfl)) ?_;rintro e w3 ⟨rfl,hb⟩;have n0:=aA (fE wr #[.int .i64 Q] 3 0 (.cells #[.int .i64 (y:Int),.int .i64 Q,.slice none 0 0] 254) rfl) hb;have n1:=aA (fF wr #[.int .i64 (y:Int),.int .i64 Q,.slice none 0 0] 254 0 (.cells #[.int .i64 Q] 3) rfl) hb;have n2:=aA (fF wr #[.int .i64 (y:Int),.int .i64 Q,.slice none 0 0] 254 1 (.cells #[.int .i64 Q] 3) rfl) hb;have n3:=aA (fF wr #[.int .i64 (y:Int),.int .i64 Q,.slice none 0 0] 254 2 (.cells #[.int .i64 Q] 3) rfl) hb;have nf:w3.frozen? ⟨wr.heap.size+1,2,none⟩=false:=(hb.frozen (p:=⟨wr.heap.size+1,2,none⟩) (by simp)).trans (by go_simp);have h9:=hb.size;simp only[yw] at h9;have O:Hid (Bl wr w3):=(aM wr _ _).trans (hb.mono (by simp;omega));have b1:=aA cs O;have e9:Hid (Bl w2 w3):=HB.trans (O.mono b3);have z1:wr.heap.size<w3.heap.size:=(by omega);have z2:wr.heap.size+1<w3.heap.size:=(by omega);have z3:w.heap.size<w3.heap.size:=(by omega);clear hb cs HC;generalize L.any (fun s=>decide (s.num=Q))=A at *
    cases A with
    | true =>
     go_wp2_with (at_builtin;refine wpList_append_own _ rfl _ _ 251 rfl w2.heap.size 254 i0 _ 3 40 underlying251 d9 e5 e6 e7 rfl (by decide) (.slice qa ln qc) ln (qG L K) rfl ?how ⟨w3.heap.size,0,none⟩ 1 1 (jN ⟨(y:Int),Q,[]⟩ (.slice none 0 0)) rfl rfl ?c1 ?c2 ?c3 ?c4 ?c5 ?_)
     case how=>exact OM.o w3 _ (fun k E=>O.block k E) (by omega)
     case c1=>exact SS (by go_simp) (by go_simp) (by go_simp)
     case c2=>exact SV
     case c3=>unfold maxLen;omega
     case c4=>omega
     case c5=>first|omega|(simp;omega)
     intro v2 w4 b4 I _
     have a5:Hid (eX w2.heap.size (dM S H (P.take (i+1))) (fun j=>if j=ln then .slice none 0 0 else K j) v2 w4):=by
      rw[EQ.o];exact d6.o w3 w4 (.slice none 0 0) v2 ⟨(y:Int),Q,[]⟩ _ (by omega) (fun k E=>O.block k E) (World.ownsRow_nil _ _ _ _) I b4
     have b8:Below w2.heap.size w3 w4:=((yv _ w3).alloc (by omega) _).grown I (by simp;omega) (fun k E=>OB.o k E);have a9:Hid (Bl w2 w4):=e9.trans b8;have b2:=(b8.cell (p:=⟨w.heap.size,0,none⟩) (by show w.heap.size < _;omega)).trans b1;have e0:=a9.size;clear b4 I b8 b1 n0 n1 n2 n3 nf
     go_wp2_with fail
     go_roundg (m-(i+1))
     case measure=>omega
     case rel=>exact⟨i+1,_,by omega,by omega,by go_num,a9,b2,e0,a5⟩
    | false =>
     go_wp2_with fail
     refine yj (KM Q _ (HS.below (b0.trans (O.mono b0.size)))) ?_;rintro e w4 ⟨v1,rfl,hb,a7⟩;obtain⟨ga,gc,hv,_⟩:=uI a7;subst hv;have e1:=aA n1 hb;have e2:=aA n2 hb;have e3:=aA n3 hb;have ef:=(hb.frozen (p:=⟨wr.heap.size+1,2,none⟩) (by exact z2)).trans nf;have b2:=aA b1 hb;have e0:=hb.size;have b7:Hid _:=a7;have b6:Hid (Bl wr w4):=O.trans (hb.mono (by omega));have a9:Hid (Bl w2 w4):=HB.trans (b6.mono b3);have z4:wr.heap.size+1<w4.heap.size:=(by omega);have z5:w.heap.size<w4.heap.size:=(by omega);clear hb a7 n0 n1 n2 n3 nf b1;obtain⟨M,hM⟩:∃ M,iZ S H Q=M:=⟨_,rfl⟩;rw[hM] at b7 EQ |-;obtain⟨mn,c8⟩:∃ z,M.length=z:=⟨_,rfl⟩;have g4:Hid (M.length=mn):=c8;rw[c8] at b7 |-;clear hM c8
     go_wp2_with (at_builtin;refine wpList_append_own _ rfl _ _ 251 rfl w2.heap.size 254 i0 _ 3 40 underlying251 d9 e5 e6 e7 rfl (by decide) (.slice qa ln qc) ln (qG L K) rfl ?how ⟨w4.heap.size,0,none⟩ 1 1 (jN ⟨(y:Int),Q,M⟩ (.slice ga mn gc)) rfl rfl ?c1 ?c2 ?c3 ?c4 ?c5 ?_)
     case how=>exact OM.o _ _ (fun k E=>(yx _ _ _ _ (by show k≠wr.heap.size+1;omega)).trans (b6.block k E)) (by simp[World.setCell];omega)
     case c1=>exact SS (by go_simp) (by go_simp) (by go_simp)
     case c2=>exact SV
     case c3=>unfold maxLen;omega
     case c4=>omega
     case c5=>first|omega|(simp[World.setCell];omega)
     intro v2 w5 b5 J _
     have a5:Hid (eX w2.heap.size (dM S H (P.take (i+1))) (fun j=>if j=ln then .slice ga mn gc else K j) v2 w5):=by
      rw[EQ.o];refine d6.o _ w5 (.slice ga mn gc) v2 ⟨(y:Int),Q,M⟩ _ (by simp[World.setCell];omega) (fun k E=>(yx _ _ _ _ (by show k≠wr.heap.size+1;omega)).trans (b6.block k E)) ?_ J b5;have h6:w4.ownsRow w3.heap.size 3 1 (.slice ga mn gc) mn (M.map (Value.int .i64)):=b7.o;show World.ownsRow _ _ _ _ _ M.length _;rw[g4.o];exact fG (kW h6 (by omega)) (fun k E=>yx _ _ _ _ (by have:=(h6.lt k E).1;show k≠wr.heap.size+1;omega))
     have b9:Below w2.heap.size w4 w5:=(((yv _ w4).setCell (by show w2.heap.size<=wr.heap.size+1;omega) _).alloc (by simp[World.setCell];omega) _).grown J (by simp[World.setCell];omega) (fun k E=>OB.o k E);have d5:Hid (Bl w2 w5):=a9.trans b9;have g7:=(b9.cell (p:=⟨w.heap.size,0,none⟩) (by show w.heap.size < _;omega)).trans b2;have i1:=d5.size;clear b5 J b9 b2 e1 e2 e3 ef
     go_wp2_with fail
     go_roundg (m-(i+1))
     case measure=>omega
     case rel=>exact⟨i+1,_,by omega,by omega,by go_num,d5,g7,i1,a5⟩
  ·have h4:i=m:=(by omega);subst h4
   have a5:Hid (eX w.heap.size (fC S H) K (.slice qa (dM S H (P.take i)).length qc) wr):=by
    have h:=HO.base (B' := w.heap.size) (by omega);rw[g6.o];have e:P.take i=P:=List.take_of_length_le (by rw[HM.o];omega);rw[e] at h |-;exact h
   clear HO c9 HF;generalize (dM S H (P.take i)).length=ln at *
   go_wp2
   go_ret;exact⟨_,K,rfl,b0.o,a5.o⟩
