/-
  x
-/
import Derived.Test.YtcbcpomacdngmaaGreatA11
namespace Go.Proofs.YtcbcpomacdngmaaGreat
set_option maxRecDepth 100000
set_option maxHeartbeats 4000000
set_option linter.unusedVariables false
open Go.RowKit Tryz
variable{v:Value}{L:List Slt}{B n i H D:Nat}{K:Nat->Value}{w:Wd}{S:List Nd}{w':World}{g:Nat->List Int}{a ga:OA}{P l:List Int}
def tst(q:List Tst)(i:Nat):Tst:=q.getD i ⟨0,0,false⟩
def jM(w:Wd)(a:OA)(q:List Tst):Prop :=
 ∀ i,i<q.length->∃ b o,a=some ⟨b,o,none⟩/\w.cell? ⟨b,o+i*3,none⟩=some (.int .i64 (tst q i).t)/\w.cell? ⟨b,o+i*3+1,none⟩=some (.int .i64 (tst q i).m)/\w.cell? ⟨b,o+i*3+2,none⟩=some (.bool (tst q i).near)
theorem jM.below{w:World}{q:List Tst}(h:jM w a q)(hb:Bl w w'):jM w' a q:=fun i hi=>by
 obtain⟨b,o,e,h1,D,E⟩:=h i hi;exact⟨b,o,e,(hb.cell (yi w ⟨b,o+i*3,none⟩ h1)).trans h1,(hb.cell (yi w ⟨b,o+i*3+1,none⟩ D)).trans D,(hb.cell (yi w ⟨b,o+i*3+2,none⟩ E)).trans E⟩
theorem Fb{q:List Tst}{j:Nat}(h:j<q.length):(q.take (j+1)).reverse=tst q j ::(q.take j).reverse:=by
 rw[List.take_add_one,List.getElem?_eq_getElem h,List.reverse_append];unfold tst;rw[aJ q _ h];rfl
theorem Fe{te:Tst}{l:List Tst}{ps:List Int}:kY S (te :: l) ps=if l.length=0 then jK S te ps else kY S l (iT S te.near (jK S te ps)):=by
 cases l with
 | nil=>rfl
 | cons D r=>rfl
theorem Ff(S:List Nd)(a:OA)(c:Nat)(te:Tst)(w:Wd)(hS:aD w a S)(D:Nat)(ps:List Int)(b0:jL S ps)(v:Value)(W:Wd)(hb:Bl w W)(T:D<W.heap.size)(cs:W.cell? ⟨w.heap.size,0,none⟩=some (.slice a S.length c))(t0:W.cell? ⟨D,0,none⟩=some (.int .i64 te.t))(t1:W.cell? ⟨D,1,none⟩=some (.int .i64 te.m))(t2:W.cell? ⟨D,2,none⟩=some (.bool te.near))
  (I:W.ownsRow (w.heap.size+1) 3 1 v ps.length (ps.map (Value.int .i64))) (a9:∀ k,v.ownBlock=some k->k≠D) :
  yO 197 #[v,.func (.func 211) #[] #[.pointer (some ⟨D,0,none⟩),.pointer (some ⟨w.heap.size,0,none⟩)]] W fun e w' => ∃ v', e=.returned v' /\ Bl w w' /\ w'.ownsRow (w.heap.size+1) 3 1 v' (jK S te ps).length ((jK S te ps).map (Value.int .i64))/\(∀ o,w'.cell? ⟨D,o,none⟩=W.cell? ⟨D,o,none⟩)/\w'.cell? ⟨w.heap.size,0,none⟩=some (.slice a S.length c)/\W.heap.size<=w'.heap.size:=by
 have eg:=yM func211 oad rfl;rcases I.2 with ⟨e,e0⟩ |⟨g,cap,b4,e,hg,U,h3,h4,h5,h6⟩
 ·subst e;have Z:ps=[]:=List.length_eq_zero_iff.1 e0;subst Z;refine(Eo _ _ W eg).mono ?_;rintro e w' ⟨rfl,E⟩;exact⟨_,rfl,hb.trans (E.mono hb.size),World.ownsRow_nil _ _ _ _,fun o=>E.cell (by exact T),(E.cell (yi _ _ cs)).trans cs,E.size⟩
 ·subst e;have a8:g≠D:=a9 g rfl;have b5:g<W.heap.size:=(Array.getElem?_eq_some_iff.1 U).1;have J:cap<=9223372036854775807:=by unfold maxLen at h4;omega
  obtain⟨_,_,_,_,G,hG,a7⟩:=RS I
  have a5:∀ w1,Off (fun b=>b=g) W w1->Bl w w1/\(∀ o,w1.cell? ⟨D,o,none⟩=W.cell? ⟨D,o,none⟩)/\w1.cell? ⟨w.heap.size,0,none⟩=some (.slice a S.length c):=fun w1 h1 =>
   ⟨hb.trans (h1.below hb.size (fun k hk=>oaa)),fun o=>h1.cell (by exact T) (fun e=>a8 (by simpa using e.symm)),(h1.cell (yi _ _ cs) (fun e=>by simp at e;omega)).trans cs⟩
  refine(El 211 _ (fun x=>!rP te.t te.m (nd S x.toNat)) g ps.length cap ps G W rfl h3 J hG a7 eg (fun x hx w1 h1=>?_)).mono ?_
  ·obtain⟨k,rfl,hk⟩:=b0 x hx;obtain⟨b1,M,b3⟩:=a5 w1 h1;have:=Ej a c S te.t te.m te.near D w.heap.size k w1 hk (hS.below b1) ((M 0).trans t0) ((M 1).trans t1) ((M 2).trans t2) b3;rw[yk];exact this
  ·rintro e w' ⟨rfl,F,G', a6,O⟩;obtain⟨b1,M,b3⟩:=a5 w' F;refine⟨_,rfl,b1,PQ a6 O (yJ (IP _ _) h3) h4 hg,M,b3,F.size⟩
theorem Fg(a:OA)(c:Nat)(S:List Nd)(place:Nat)(qa:OA)(qc:Nat)(q:List Tst)(w:Wd)(wf:WF S)(hp:place<S.length)(hS:aD w a S)(hq:q.length<=6)(hQ:jM w qa q) :
  yO 201 #[.agg #[.slice a S.length c],.int .i64 (place:Int),.slice qa q.length qc] w fun e w' => e=.returned (.bool (gY S place q))/\Below w.heap.size w w' := by
 have hN:=wf.small;have T:Hid (∀ (te:Tst) bt ps,jL S ps->∀ v W,Bl w W->bt<W.heap.size->W.cell? ⟨w.heap.size,0,none⟩=some (.slice a S.length c)->W.cell? ⟨bt,0,none⟩=some (.int .i64 te.t)->W.cell? ⟨bt,1,none⟩=some (.int .i64 te.m)->W.cell? ⟨bt,2,none⟩=some (.bool te.near)->W.ownsRow (w.heap.size+1) 3 1 v ps.length (ps.map (Value.int .i64))->(∀ k,v.ownBlock=some k->k≠bt)->Calls _ _ _ _ _):=fun te bt ps e7 v W hb e1 cs t0 t1 t2 b6 e5=>Ff S a c te w hS bt ps e7 v W hb e1 cs t0 t1 t2 b6 e5;have d4:Hid (∀ pa pc places near W,aD W a S->places.length<=1000000->aG W pa places->Calls _ _ _ _ _):=fun pa pc places near W hW hL hP=>Fa a c S pa pc places near W hN hW hL hP;have PL:Hid (∀ near ps,jL S ps->jL S (iT S near ps)):=fun near ps h=>(Ef wf near h).1;have PN:Hid (∀ te ps,jL S ps->jL S (jK S te ps)):=fun te ps h=>h.sift;have HS:Hid (aD w a S):=hS;have HQ:Hid (jM w qa q):=hQ
 have TR:Hid (∀ j,j<q.length->∀ ps,kY S (q.take (j+1)).reverse ps=if j=0 then jK S (tst q j) ps else kY S (q.take j).reverse (iT S (tst q j).near (jK S (tst q j) ps))):=fun j hj ps=>by
  rw[Fb hj,Fe];simp only[List.length_reverse,List.length_take];by_cases e:j=0
  ·subst e;rfl
  ·rw[yd oaa,yd e]
 have H0:Hid (kY S q.reverse [(place:Int)]=kY S (q.take q.length).reverse [(place:Int)]):=by show _=_;rw[List.take_length]
 have HP:Hid (jL S [(place:Int)]):=fun x hx=>⟨place,by simpa using hx,hp⟩;have HD:Hid (gY S place q=decide (0<(kY S q.reverse [(place:Int)]).length)):=rfl;generalize gY S place q=R at *;generalize kY S q.reverse [(place:Int)]=F at *;clear hS hQ wf;generalize hn:S.length=n at *;have HN:Hid _:=hn;clear hn;generalize hl:q.length=L at *;have HL:Hid _:=hl;clear hl
 go_enter func201,ntmps201
 go_wp2
 have c0:((w.alloc (.cells #[.slice a n c] 43)).alloc (.cells #[.int .i64 (place:Int)] 3)).cell? ⟨w.heap.size,0,none⟩=some (.slice a n c):=oaf
 have HO:Hid (((w.alloc (.cells #[.slice a n c] 43)).alloc (.cells #[.int .i64 (place:Int)] 3)).ownsRow (w.heap.size+1) 3 1 (.slice (some ⟨w.heap.size+1,0,none⟩) 1 1) ([(place:Int)]).length (([(place:Int)]).map (Value.int .i64))):=⟨oac,Or.inr ⟨w.heap.size+1,1,#[.int .i64 (place:Int)],rfl,yr _,by
  have:=yN (w.alloc (.cells #[.slice a n c] 43)) (.cells #[.int .i64 (place:Int)] 3);simpa using this,oac,oai,oac,oac⟩⟩
 go_loopg [7,8] L (fun g1 s7 s8 wr=>∃ (j:Nat) (x:Int) (ps:List Int),j<=L/\j<=g1/\x=(j:Int)-1/\s8=.int .i64 x/\ps.length<=24/\Hid (Bl w wr)/\wr.cell? ⟨w.heap.size,0,none⟩=some (.slice a n c)/\w.heap.size<wr.heap.size/\Hid (wr.ownsRow (w.heap.size+1) 3 1 s7 ps.length (ps.map (Value.int .i64)))/\Hid (jL S ps)/\Hid (F=kY S (q.take j).reverse ps))
 case atStart=>exact⟨L,(L:Int)-1,[(place:Int)],yr _,yr _,rfl,rfl,oac,jX _ _ _,c0,oab,HO,HP,H0⟩
 case round =>
  obtain⟨j,x,ps,hj,g7,hx,rfl,e6,HB,cs,hs,a6,a7,HF⟩:=hrel;clear c0 HO HP H0;obtain⟨pa,pc,hv,I,U⟩:=uI a6.out;have HI:Hid _:=I;have HK:Hid _:=U;clear I U;by_cases e3:j=0
  ·subst e3;have e9:x = -1:=oaa;subst e9;clear hx
   have hR:R=decide (0<ps.length):=by
    rw[HD.out,HF.out];rfl
   have HR:Hid _:=hR;rw[hv];clear hR hv;generalize ps.length=d9 at *
   go_wp2
   go_ret;exact⟨by rw[HR.out];rfl,HB.out⟩
  ·obtain⟨i,rfl⟩:∃ i,j=i+1:=⟨j-1,oaa⟩;obtain rfl:x=(i:Int):=oaa
   clear hx;have g8:(i:Int)<(L:Int):=oaa;obtain⟨qb,qo,rfl,q0,q1,q2⟩:=(HQ.below HB) i (by rw[HL.out];omega);have h8:=yi _ _ q0;have b2:=TR.out i oaa ps;have b0:Hid _:=b2;clear b2;have SI:Hid (∀ W,Bl w W->wr.heap.size<W.heap.size->W.cell? ⟨w.heap.size,0,none⟩=some (.slice a n c)->W.cell? ⟨wr.heap.size,0,none⟩=some (.int .i64 (tst q i).t)->W.cell? ⟨wr.heap.size,1,none⟩=some (.int .i64 (tst q i).m)->W.cell? ⟨wr.heap.size,2,none⟩=some (.bool (tst q i).near)->W.ownsRow (w.heap.size+1) 3 1 (.slice pa ps.length pc) ps.length (ps.map (Value.int .i64))->Calls _ _ _ _ _):=fun W h1 h2 h3 h4 h5 h6 h7=>T.out (tst q i) wr.heap.size ps a7.out (.slice pa ps.length pc) W h1 h2 h3 h4 h5 h6 h7 (fun k hk=>by have:=HK.out k (by rw[hv];exact hk);omega);have OW:Hid (wr.ownsRow (w.heap.size+1) 3 1 (.slice pa ps.length pc) ps.length (ps.map (Value.int .i64))):=(by rw[<- hv];exact a6.out);have b1:Hid (jL S (jK S (tst q i) ps)):=PN.out _ _ a7.out;rw[hv];clear hv a6 a7 HI HK T;have b7:(jK S (tst q i) ps).length<=24:=yJ (IP _ _) e6;generalize b9:jK S (tst q i) ps=D at *;generalize c7:tst q i=te at *;have g5:Hid _:=c7;clear b9 c7;generalize b3:ps.length=d9 at *;have g4:Hid _:=b3;clear b3;obtain⟨tt,tm,tn⟩:=te;dsimp only at *
   go_wp2_with fail
   refine yj (SI _ (HB.alloc HB.size _) oac oaf oaf oaf oaf (OW.alloc _)) ?_;rintro e w2 ⟨v', rfl,b4,J,c6,a8,g0⟩;obtain⟨c8,c9,a9,E,_⟩:=uI J;have t2:w2.cell? ⟨wr.heap.size,2,none⟩=some (.bool tn):=(c6 2).trans oaf;have M:Hid _:=b4;have d7:Hid (w2.ownsRow (w.heap.size+1) 3 1 (.slice c8 D.length c9) D.length (D.map (Value.int .i64))):=(by rw[<- a9];exact J);have d6:Hid _:=E;simp only[yw] at g0;have e8:w.heap.size<w2.heap.size:=oaa;have i0:wr.heap.size<w2.heap.size:=oaa;clear b4 J E c6;rw[a9];clear a9;by_cases b5:i=0
   ·subst b5
    have a5:Hid (F=kY S (q.take 0).reverse D):=by
     show _=_;rw[HF.out,b0.out,ye rfl];rfl
    go_wp2
    go_roundg 0
    case measure=>omega
    case rel=>exact⟨0,-1,D,oaa,oaa,rfl,by go_num,b7,M,a8,e8,d7,b1,a5⟩
   ·have g9:(0:Int)<(i:Int):=oaa
    have a5:Hid (F=kY S (q.take i).reverse (iT S tn D)):=by
     show _=_;rw[HF.out,b0.out,yd b5]
    have e0:Hid (jL S (iT S tn D)):=PL.out _ _ b1.out;have AB:Hid _:=d4.out c8 c9 D tn w2 (HS.below M) oaa d6.out;generalize b8:D.length=g6 at *;clear b8
    go_wp2_with fail
    refine yj AB.out ?_;rintro e w3 ⟨v3,rfl,O,Z,e4⟩;have h9:=O.size;have e2:=(O.cell (yi _ _ a8)).trans a8;have d5:Hid (Bl w w3):=M.trans (O.mono M.size);have d8:Hid (w3.ownsRow (w.heap.size+1) 3 1 v3 (iT S tn D).length ((iT S tn D).map (Value.int .i64))):=JE Z oaa;clear Z O
    go_wp2
    go_roundg i
    case measure=>omega
    case rel=>exact⟨i,(i:Int)-1,iT S tn D,oaa,oaa,rfl,by go_num,oaa,d5,e2,oaa,d8,e0,a5⟩
def xH(te:Tst):Bool:=(decide (te.t = -1000001) || decide (0<=te.t/\te.t<=99)) && (decide (te.m = -1000001) || decide (-1000000<=te.m/\te.m<=1000000))
theorem Fh(te:Tst)(w:Wd) :
  yO 210 #[.agg #[.int .i64 te.t,.int .i64 te.m,.bool te.near]] w fun e w' => e=.returned (.bool (xH te))/\Below w.heap.size w w' := by
 obtain⟨T,M,near⟩:=te;unfold xH;dsimp only;have d1:=gU T 0 99;have d2:=gU M (-1000000) 1000000;generalize decide (0<=T/\T<=99)=F at *;generalize decide (-1000000<=M/\M<=1000000)=E at *;by_cases h1:T = -1000001
 ·subst h1;simp only[decide_true,Bool.true_or,Bool.true_and];by_cases D:M = -1000001
  ·subst D;simp only[decide_true,Bool.true_or]
   go_enter func210,ntmps210
   go_wp2
   go_ret;exact⟨rfl,(yv _ _).alloc (yr _) _⟩
  ·have I:(M == -1000001)=false:=beq_eq_false_iff_ne.2 D;simp only[yH D,Bool.false_or]
   cases E <;>
   ·go_enter func210,ntmps210
    go_wp2_with (go_at_call 66;refine(d2 _).mono ?_;rintro e w' ⟨rfl,rfl⟩)
    go_ret;exact⟨rfl,(yv _ _).alloc (yr _) _⟩
 ·have J:(T == -1000001)=false:=beq_eq_false_iff_ne.2 h1;simp only[yH h1,Bool.false_or]
  cases F with
  | false =>
   simp only[Bool.false_and]
   go_enter func210,ntmps210
   go_wp2_with (go_at_call 66;refine(d1 _).mono ?_;rintro e w' ⟨rfl,rfl⟩)
   go_ret;exact⟨rfl,(yv _ _).alloc (yr _) _⟩
  | true =>
   simp only[Bool.true_and];by_cases D:M = -1000001
   ·subst D;simp only[decide_true,Bool.true_or]
    go_enter func210,ntmps210
    go_wp2_with (go_at_call 66;refine(d1 _).mono ?_;rintro e w' ⟨rfl,rfl⟩)
    go_ret;exact⟨rfl,(yv _ _).alloc (yr _) _⟩
   ·have I:(M == -1000001)=false:=beq_eq_false_iff_ne.2 D;simp only[yH D,Bool.false_or]
    cases E <;>
    ·go_enter func210,ntmps210
     go_wp2_with (first|(go_at_call_of 66 (Value.int .i64 99);refine(d1 _).mono ?_;rintro e w' ⟨rfl,rfl⟩)|(go_at_call_of 66 (Value.int .i64 1000000);refine(d2 _).mono ?_;rintro e w' ⟨rfl,rfl⟩))
     go_ret;exact⟨rfl,(yv _ _).alloc (yr _) _⟩
def lZ:Nat->List Tst->Int
 | _,[]=>0
 | k,te :: r=>if xH te then (if decide (k=0) && te.near then 3 else lZ (k+1) r) else 2
def qE(q:List Tst):Int:=if decide (1<=(q.length:Int)/\(q.length:Int)<=6) then lZ 0 q else 1
theorem Fj{q:List Tst}{k:Nat}(h:k<q.length):q.drop k=tst q k :: q.drop (k+1):=PV h
theorem RU(qa:OA)(qc:Nat)(q:List Tst)(w:Wd)(hq:q.length<=9223372036854775807)(hQ:jM w qa q) :
  yO 200 #[.slice qa q.length qc] w fun e w' => e=.returned (.int .i64 (qE q))/\Below w.heap.size w w' := by
 have HQ:Hid (jM w qa q):=hQ;have d1:=gU (q.length:Int) 1 6;have DR:Hid (∀ k,k<q.length->lZ k (q.drop k)=if xH (tst q k) then (if decide (k=0) && (tst q k).near then 3 else lZ (k+1) (q.drop (k+1))) else 2):=fun k hk=>by rw[Fj hk];rfl
 have DE:Hid (lZ q.length (q.drop q.length)=0):=by show _=_;rw[List.drop_length];rfl
 unfold qE;clear hQ;have H0:Hid (lZ 0 q=lZ 0 (q.drop 0)):=rfl;generalize lZ 0 q=E at *;generalize hl:q.length=L at *;have U:Hid _:=hl;clear hl
 cases hb:decide (1<=(L:Int)/\(L:Int)<=6) with
 | false =>
  rw[hb] at d1;simp only[Bool.false_eq_true,if_false];clear hb
  go_enter func200,ntmps200
  go_wp2_with (go_at_call 66;refine(d1 _).mono ?_;rintro e w' ⟨rfl,F⟩;have M:=F.symm;clear F;subst M)
  go_ret;exact⟨rfl,yv _ _⟩
 | true =>
  rw[hb] at d1;simp only[if_true];clear hb
  go_enter func200,ntmps200
  go_wp2_with (go_at_call 66;refine(d1 _).mono ?_;rintro e w' ⟨rfl,F⟩;have M:=F.symm;clear F;subst M)
  go_loopg [11] L (fun g1 s11 wr=>∃ k:Nat,k<=L/\L-k<=g1/\s11=.int .i64 k/\Below w.heap.size w wr/\Hid (E=lZ k (q.drop k)))
  case atStart=>exact⟨0,oaa,oaa,rfl,yv _ _,H0⟩
  case round =>
   obtain⟨k,hk,a6,rfl,hb,O⟩:=hrel;by_cases Z:k<L
   ·have a5:(k:Int)<(L:Int):=oaa;obtain⟨qb,qo,rfl,q0,q1,q2⟩:=(HQ.below hb) k (by rw[U.out];exact Z);have a8:=yi _ _ q0;have DK:=DR.out k oaa;have d2:=fun W=>Fh (tst q k) W;generalize tst q k=te at *;generalize xH te=ok at *;obtain⟨tt,tm,tn⟩:=te;dsimp only at *;have J:Hid _:=DK;clear DK
    cases ok with
    | false =>
     have I:Hid (E=2):=by show _=_;rw[O.out,J.out];rfl
     go_wp2_with (go_at_call 210;refine(d2 _).mono ?_;rintro e w2 ⟨rfl,D⟩)
     go_ret;exact⟨by rw[I.out];rfl,hb.trans (((yv _ _).alloc (yr _) _ |>.trans (D.mono oac)).mono hb.size)⟩
    | true =>
     by_cases T:k=0
     ·subst T;simp only[Nat.zero_mul,Nat.add_zero] at q0 q1 q2
      cases tn with
      | true =>
       have I:Hid (E=3):=by show _=_;rw[O.out,J.out];rfl
       go_wp2_with (go_at_call 210;refine(d2 _).mono ?_;rintro e w2 ⟨rfl,D⟩;simp only[yw] at D;have c2:w2.cell? ⟨wr.heap.size,2,none⟩=some (.bool true):=(D.cell oac).trans oaf)
       go_ret;exact⟨by rw[I.out];rfl,hb.trans (((yv _ _).alloc (yr _) _ |>.trans (D.mono oaa)).mono hb.size)⟩
      | false =>
       have I:Hid (E=lZ (0+1) (q.drop (0+1))):=by show _=_;rw[O.out,J.out];rfl
       go_wp2_with (go_at_call 210;refine(d2 _).mono ?_;rintro e w2 ⟨rfl,D⟩;simp only[yw] at D;have c2:w2.cell? ⟨wr.heap.size,2,none⟩=some (.bool false):=(D.cell oac).trans oaf)
       go_roundg (L-1)
       case measure=>omega
       case rel=>exact⟨0+1,oaa,oaa,by go_num,hb.trans (((yv _ _).alloc (yr _) _ |>.trans (D.mono oaa)).mono hb.size),I⟩
     ·have a7:((k:Int) == 0)=false:=beq_eq_false_iff_ne.2 oaa
      have I:Hid (E=lZ (k+1) (q.drop (k+1))):=by
       show _=_;rw[O.out,J.out,yH T];rfl
      go_wp2_with (go_at_call 210;refine(d2 _).mono ?_;rintro e w2 ⟨rfl,D⟩)
      go_roundg (L-(k+1))
      case measure=>omega
      case rel=>exact⟨k+1,oaa,oaa,by go_num,hb.trans (((yv _ _).alloc (yr _) _ |>.trans (D.mono oac)).mono hb.size),I⟩
   ·have:k=L:=oaa;subst this;have I:Hid (E=0):=by show _=_;rw[O.out,<- U.out];rw[<- U.out] at DE;exact DE.out
    go_wp2
    go_ret;exact⟨by rw[I.out];rfl,hb⟩
theorem Gn:(prog.info? 254).map (fun i=>(i.zero,i.size,i.bytes))=some (some (.agg #[.int .i64 0,.int .i64 0,.slice none 0 0]),3,40):=oad
def jN(s:Slt)(v:Value):List Value:=[.int .i64 s.pl,.int .i64 s.num,v]
def qG(L:List Slt)(K:Nat->Value):List Value:=(List.range L.length).flatMap fun i=>jN (slt L i) (K i)
theorem SQ{s:Slt}(h:i<L.length):slt (L++[s]) i=slt L i:=by
 rw[rT oab,rT h,List.getElem_append_left h]
theorem SS(L:List Slt)(s:Slt):slt (L++[s]) L.length=s:=by
 rw[rT oac];simp
theorem Gp(L:List Slt)(K:Nat->Value)(s:Slt)(v:Value):qG L K++jN s v=qG (L++[s]) (fun i=>if i=L.length then v else K i):=by
 unfold qG;rw[List.length_append,List.length_singleton,List.range_succ,List.flatMap_append]
 congr 1
 ·refine Cm (fun x E=>?_);have D:=List.mem_range.1 E;have:x≠L.length:=oaa
  simp only[yd this];rw[SQ D]
 ·simp[SS]
def eX(B:Nat)(L:List Slt)(K:Nat->Value)(v:Value)(w:Wd):Prop :=
 w.ownsRow B 254 3 v L.length (qG L K)/\∀ i,i<L.length->w.ownsRow B 3 1 (K i) (slt L i).gv.length ((slt L i).gv.map (Value.int .i64))
theorem eX.other{w:World}(h:eX B L K v w)(hb:∀ b,B<=b->b<w.heap.size->w'.heap[b]?=w.heap[b]?):eX B L K v w' :=
 ⟨fG h.1 (fun k D=>hb k (h.1.lt k D).1 (h.1.lt k D).2),fun i hi=>fG (h.2 i hi) (fun k D=>hb k ((h.2 i hi).lt k D).1 ((h.2 i hi).lt k D).2)⟩
theorem eX.below{w:World}(h:eX B L K v w)(hb:Bl w w'):eX B L K v w' := h.other (fun b _ D=>hb.block b D)
theorem eX.base{B':Nat}(h:eX B L K v w)(D:B' <= B):eX B' L K v w:=⟨kW h.1 D,fun i hi=>kW (h.2 i hi) D⟩
theorem BN(L:List Slt)(K:Nat->Value):∀ q,((List.range q).flatMap fun i=>jN (slt L i) (K i)).length=q*3
 | 0=>rfl
 | q+1=>by rw[List.range_succ,List.flatMap_append,List.length_append,BN L K q];simp[jN];omega
theorem JJ(L:List Slt)(K:Nat->Value){i j:Nat}(D:j<3):∀ {q:Nat},i<q->((List.range q).flatMap fun i=>jN (slt L i) (K i))[i*3+j]?=(jN (slt L i) (K i))[j]?
 | 0,hi=>oaa
 | q+1,hi=>by
  rw[List.range_succ,List.flatMap_append];by_cases e:i<q
  ·rw[List.getElem?_append_left (by rw[BN];omega)];exact JJ L K D e
  ·have:i=q:=oaa;subst this;rw[List.getElem?_append_right (by rw[BN];omega),BN,show i*3+j-i*3=j by omega];simp
theorem eX.slts(h:eX B L K v w):∃ a c,v=.slice a L.length c/\nR w a L:=by
 obtain⟨E,O⟩:=h;have D:=E;obtain⟨hl,h⟩:=E;rcases h with ⟨rfl,h0⟩ |⟨g,cap,F,rfl,hb,hg,h1,T,U,Z⟩
 ·exact⟨none,0,by rw[h0],fun i hi=>oaa⟩
 ·refine⟨some ⟨g,0,none⟩,cap,rfl,fun i hi=>⟨g,0,rfl,?_⟩⟩
  have hc:∀ j,j<3->w.cell? ⟨g,i*3+j,none⟩=(jN (slt L i) (K i))[j]?:=fun j M=>by
   rw[<- JJ L K M hi];exact D.cellAt (i*3+j) oaa
  obtain⟨sa,sc,I,J⟩:=tO (O i hi);rw[yD];refine⟨hc 0 oaa,hc 1 oaa,sa,sc,?_,J⟩;rw[hc 2 oaa,I];rfl
theorem eX.step{wr wp w3:Wd}{v1 v2:Value}{s:Slt}{o3:Obj}(I:eX B L K v wr)(hB:B<=wr.heap.size)(hs:wr.heap.size<=wp.heap.size)
  (e:∀ k,k<wr.heap.size->wp.heap[k]?=wr.heap[k]?) (E:wp.ownsRow wr.heap.size 3 1 v1 s.gv.length (s.gv.map (Value.int .i64)))
  (h3:(wp.alloc o3).grownBy w3 v.ownBlock) (M:w3.ownsRow B 254 3 v2 (L.length+1) (qG L K++jN s v1)) :
  eX B (L++[s]) (fun i=>if i=L.length then v1 else K i) v2 w3:=by
 obtain⟨Z,D⟩:=I
 have T:∀ k,k<wp.heap.size->v.ownBlock≠some k->w3.heap[k]?=wp.heap[k]?:=fun k D O =>
  (h3.block k oab (fun e=>O e.symm)).trans (Below.heap_alloc _ _ _ D)
 refine⟨?_,fun i hi=>?_⟩
 ·rw[<- Gp,List.length_append,List.length_singleton];exact M
 ·rw[List.length_append,List.length_singleton] at hi;by_cases U:i=L.length
  ·subst U;simp only[if_true];rw[SS];refine fG (kW E hB) (fun k D=>?_);have hl:=E.lt k D;exact T k hl.2 (fun ek=>by have:=(Z.lt k ek).2;omega)
  ·simp only[yd U];have J:i<L.length:=oaa;rw[SQ J];have F:=D i J;refine fG F (fun k D=>?_);have hl:=F.lt k D;exact(T k oaa (wL F Z oae k D)).trans (e k hl.2)
theorem SV{W:Wd}{b:Nat}{s:Slt}(c0:W.cell? ⟨b,0,none⟩=some (.int .i64 s.pl))(c1:W.cell? ⟨b,1,none⟩=some (.int .i64 s.num))(c2:W.cell? ⟨b,2,none⟩=some v):∀ j u,(jN s v)[j]?=some u->W.cell? ((⟨b,0,none⟩:Addr).add j)=some u:=fun j u D=>by
 unfold jN at D;rw[Addr.add_lit]
 match j,D with
 | 0,D=>cases D;exact c0
 | 1,D=>cases D;exact c1
 | 2,D=>cases D;exact c2
theorem SY{s:Slt}{c:Nat}:∀ u ∈ jN s (.slice a n c),u.oneCell' = true:=fun u D=>by
 unfold jN at D;simp at D;rcases D with rfl|rfl|rfl <;> rfl
theorem Gq(a:OA)(c:Nat)(S:List Nd)(H:Int)(w:Wd)(M:S.length<=9223372036854775807)(F:aD w a S)(I:dA S H = -1) :
  yO 214 #[.agg #[.slice a S.length c],.int .i64 H] w fun e w' => e=.returned (.slice none 0 0)/\Below w.heap.size w w' := by
 have d:=fun(W:Wd) (O:aD W a S)=>uC a c S H W M O;rw[I] at d;have D:Hid _:=d;have J:Hid (aD w a S):=F;clear d F I;generalize S.length=n at *
 go_enter func214,ntmps214
 go_wp2_with fail
 refine yj (D _ (J.below ((yv _ _).alloc (yr _) _))) ?_;rintro e w1 ⟨rfl,hb⟩;have E:Hid (Bl w w1):=((yv _ _).alloc (yr _) _).trans (hb.mono oac);clear hb
 go_wp2_with fail
 go_ret;exact⟨rfl,E.out⟩
theorem WF.used_host(h:WF S){r:Nat}(E:r<S.length)(hh:(nd S r).h≠-1):(nd S r).u=true:=by
 have D:=(jY (h.node r E)).2.2;unfold gV at D
 split at D
 ·rename_i F;exact F
 ·have:=of_decide_eq_true D;omega
theorem Gr(hi:i<P.length){y:Nat}(D:P.getD i 0=y):dM S H (P.take (i+1))=oQ S H (dM S H (P.take i)) (y:Int):=by
 rw[List.take_succ_eq_append_getElem hi,BK];rw[aJ P 0 hi] at D;rw[D]
theorem Gs(i:Nat)(F:P.length<=24):(dM S H (P.take i)).length<=24:=by
 have h1:=SG S H (P.take i);have D:=List.length_take_le i P;have E:=List.length_take_le' i P;omega
theorem Gt(a:OA)(c:Nat)(S:List Nd)(H r:Nat)(w:Wd)(wf:WF S)(hB:Big S)(hH:H<S.length)(hr:r<S.length)(er:dA S H=r)(hh:(nd S r).h=H)(hS:aD w a S) :
  yO 214 #[.agg #[.slice a S.length c],.int .i64 (H:Int)] w fun e w' => ∃ v K,e=.returned v/\Below w.heap.size w w' /\ eX w.heap.size (fC S H) K v w' := by
 obtain⟨i0,d9,e5,e6,e7⟩:=info_parts Gn;have hN:=wf.small;have hu:=wf.used_host hr oaa
 have g6:Hid (fC S H=dM S H (bZ S S.length r)):=by
  show _=_;unfold fC;rw[er,yd oaa,yk]
 have d:=fun(W:Wd) (hW:aD W a S)=>uC a c S (H:Int) W oaa hW;rw[er] at d;have D:Hid _:=d;have DO:Hid (∀ W,aD W a S->Calls _ _ _ _ _):=fun W hW=>IG a c S r S.length (nd S r).n W oaa hB hW (Dx hr hu rfl wf) hr (wf.deep_all hr) (by have:=uD wf hr;omega);have KM:Hid (∀ (mk:Int) W,aD W a S->Calls _ _ _ _ _):=fun mk W hW=>Gb a c S H mk W hH (by have:=wf.kids_small hH;omega) (fun y hy=>by obtain⟨k,e,E,_⟩:=wf.kid hH hy;exact⟨k,e,E⟩) hW;have HS:Hid (aD w a S):=hS
 have TT:Hid (∀ y,y<S.length->0<=(nd S y).t/\(nd S y).t<=99):=fun y hy=>by
  have h1:=(jY (wf.node y hy)).1;unfold iO at h1;simp at h1;omega
 have PL:Hid (∀ y ∈ bZ S S.length r,∃ x:Nat,y=x/\x<S.length):=fun y hy=>by
  obtain⟨q,e,hq,_⟩:=qD wf hr (wf.deep_all hr) y hy;exact⟨q,e,hq⟩
 have d7:(bZ S S.length r).length<=24:=by have:=uD wf hr;omega
 clear d hS hu er hB wf;generalize bZ S S.length r=P at *;obtain⟨m,hm⟩:∃ m,P.length=m:=⟨_,rfl⟩;have HM:Hid (P.length=m):=hm;rw[hm] at DO d7;obtain⟨n,hn⟩:∃ n,S.length=n:=⟨_,rfl⟩;have HN:Hid (S.length=n):=hn;rw[hn] at hN hH hr D DO KM TT PL |-;have i3:(H:Int)<(n:Int):=oaa
 have i5:(r:Int)<(n:Int):=oaa
 have i6:((r:Int) == -1)=false:=oac
 have i7:decide ((r:Int) = -1)=false:=oac
 clear hn hm
 go_enter func214,ntmps214
 go_wp2_with fail
 refine yj (D _ (HS.below ((yv _ _).alloc (yr _) _))) ?_;rintro e w1 ⟨rfl,d8⟩;have F:=d8;simp only[yw] at F;have h8:=F.size;simp only[yw] at h8;have l0:w1.cell? ⟨w.heap.size,0,none⟩=some (.slice a n c):=(F.cell oac).trans oaf;have a8:Hid (Bl w w1):=((yv _ _).alloc (yr _) _).trans (F.mono oaa);obtain⟨nb,no,ea,_,c1,_⟩:=(HS.below a8) r (by rw[HN.out];exact hr);subst ea;have q0:=yi _ _ l0;have q1:=yi _ _ c1;clear d8 F D;generalize (nd S r).n=U at *
 go_wp2_with fail
 go_region_held3 (fun e8=>e8.cell? ⟨w.heap.size,0,none⟩=some (.slice (some ⟨nb,no,none⟩) n c)/\e8.cell? ⟨nb,no+r*8+1,none⟩=some (.int .i64 U)) (go_keep) (first|(go_at_call 199;refine(yj (DO _ ?nd) ?_);(case nd=>exact HS.below a8.drew);rintro e w2 ⟨sa,cap,rfl,Z,hI,g8,g9⟩;have d4:Hid (Bl w w2):=a8.drew.trans (Z.mono a8.size);have l2:w2.cell? ⟨w.heap.size,0,none⟩=some (.slice (some ⟨nb,no,none⟩) n c):=(Z.cell (by exact q0)).trans l0;have d1:w2.cell? ⟨nb,no+r*8+1,none⟩=some (.int .i64 U):=(Z.cell (by exact q1)).trans c1;have s2:w.heap.size<w2.heap.size:=yC q0 Z.size;have s3:nb<w2.heap.size:=yC q1 Z.size;have HI:Hid (aG w2 sa P):=hI;clear Z hI g8 g9))
 go_wp2_with fail
 go_loopg [8,33] m (fun g s8 s33 wr=>∃ (i:Nat) (K:Nat->Value),i<=m/\m-i<=g/\s33=.int .i64 i/\Hid (Bl w2 wr)/\wr.cell? ⟨w.heap.size,0,none⟩=some (.slice (some ⟨nb,no,none⟩) n c)/\w2.heap.size<=wr.heap.size/\Hid (eX w2.heap.size (dM S H (P.take i)) K s8 wr))
 case atStart=>exact⟨0,fun _=>.slice none 0 0,oaa,oaa,rfl,yv _ _,l2,yr _,(show eX w2.heap.size (dM S H []) _ _ w2 from ⟨World.ownsRow_nil _ _ _ _,fun i hi=>by cases hi⟩)⟩
 case round =>
  obtain⟨i,K,hi,hg,rfl,HB,cs,b3,HO⟩:=hrel;clear l2;have HF:Hid ((dM S H (P.take i)).length<=24):=Gs i (by rw[HM.out];exact d7);obtain⟨qa,qc,hv,c9⟩:=HO.slts;subst hv;have b0:Hid (Bl w wr):=d4.trans (HB.mono d4.size);by_cases c7:i<m
  ·obtain⟨y,hy,e4⟩:=PL.out (P.getD i 0) (by rw[aJ P 0 (by rw[HM.out];exact c7)];exact List.getElem_mem _);obtain⟨pb,po,ep,h7⟩:=(HI.below HB) i (by rw[HM.out];exact c7);subst ep;rw[hy] at h7;obtain⟨i9,j0,ea,_,_,c2,_⟩:=(HS.below b0) y (by rw[HN.out];exact e4);cases ea;have i8:(y:Int)<(n:Int):=oaa;have i4:(i:Int)<(m:Int):=oaa;have NX:Hid (dM S H (P.take (i+1))=oQ S H (dM S H (P.take i)) (y:Int)):=Gr (by rw[HM.out];exact c7) hy;have ht:=TT.out y e4;have HT:Hid (mV S (y:Int)=(nd S y).t-90):=(by show _=_;unfold mV;rw[yk]);clear hy;generalize (nd S y).t=T at *;obtain⟨Q,hQ⟩:∃ Q,T-90=Q:=⟨_,rfl⟩;have hw:IntKind.i64.wrap (T-90)=Q:=(by rw[hQ];have:=hQ;unfold IntKind.wrap;simp[IntKind.bits,IntKind.signed];omega);have g5:Hid (nR wr qa (dM S H (P.take i))):=c9;clear c9;generalize dM S H (P.take i)=L at *;have hF:=HF.out;have hc:=fun(W:Wd) (hW:nR W qa L) (hq:W.cell? ⟨wr.heap.size,0,none⟩=some (.int .i64 Q))=>Gm qa qc L wr.heap.size Q W oaa hW hq;have a6:=fun(wp w3:Wd) (v1 v2:Value) (s:Slt) (o3:Obj)=>eX.step (wp:=wp) (w3:=w3) (v1:=v1) (v2:=v2) (s:=s) (o3:=o3) HO.out b3;obtain⟨ln,c6⟩:∃ z,L.length=z:=⟨_,rfl⟩;have g0:Hid (L.length=ln):=c6;rw[c6] at HO HF hc a6 hF |-;have HC:Hid _:=hc;have d6:Hid _:=a6;clear c6 hc a6;by_cases i2:Q<0
   ·have EQ:Hid (dM S H (P.take (i+1))=L):=by
     show _=_;rw[NX.out];unfold oQ;rw[ye (by rw[HT.out];omega)]
    go_wp2_with fail
    go_roundg (m-(i+1))
    case measure=>omega
    case rel=>exact⟨i+1,K,oaa,oaa,by go_num,HB.trans ((aB _ _).mono b3),aA cs (aB _ _),oab,(show eX _ (dM S H (P.take (i+1))) K (.slice qa ln qc) _ by rw[EQ.out];exact HO.below (aB _ _))⟩
   ·have EQ:Hid (dM S H (P.take (i+1))=L++[⟨(y:Int),Q,if L.any (fun s=>decide (s.num=Q)) then [] else iZ S H Q⟩]):=by
     show _=_;rw[NX.out];unfold oQ;rw[HT.out,hQ,yd oaa]
    clear NX HT
    have OM:Hid (∀ (W:Wd) (o3:Obj),(∀ k,k<wr.heap.size->W.heap[k]?=wr.heap[k]?)->wr.heap.size<=W.heap.size->(W.alloc o3).ownsRow w2.heap.size 254 3 (.slice qa ln qc) ln (qG L K)):=fun W o3 h1 h2=>by
     have h3:=HO.out.1;rw[g0.out] at h3;exact fG h3 (fun k E=>(Below.heap_alloc _ _ _ (by have:=(h3.lt k E).2;omega)).trans (h1 k (h3.lt k E).2))
    have OB:Hid (∀ k,(Value.slice qa ln qc).ownBlock=some k->w2.heap.size<=k):=fun k E=>(HO.out.1.lt k E).1
    go_wp2_with fail
    refine yj (HC _ (g5.below (aM _ _ _)) (fE wr _ _ 0 _ rfl)) ?_;rintro e w3 ⟨rfl,hb⟩;have n0:=aA (fE wr #[.int .i64 Q] 3 0 (.cells #[.int .i64 (y:Int),.int .i64 Q,.slice none 0 0] 254) rfl) hb;have n1:=aA (fF wr #[.int .i64 (y:Int),.int .i64 Q,.slice none 0 0] 254 0 (.cells #[.int .i64 Q] 3) rfl) hb;have n2:=aA (fF wr #[.int .i64 (y:Int),.int .i64 Q,.slice none 0 0] 254 1 (.cells #[.int .i64 Q] 3) rfl) hb;have n3:=aA (fF wr #[.int .i64 (y:Int),.int .i64 Q,.slice none 0 0] 254 2 (.cells #[.int .i64 Q] 3) rfl) hb;have nf:w3.frozen? ⟨wr.heap.size+1,2,none⟩=false:=(hb.frozen (p:=⟨wr.heap.size+1,2,none⟩) oac).trans oaf;have h9:=hb.size;simp only[yw] at h9;have O:Hid (Bl wr w3):=(aM wr _ _).trans (hb.mono oab);have b1:=aA cs O;have e9:Hid (Bl w2 w3):=HB.trans (O.mono b3);have z1:wr.heap.size<w3.heap.size:=oaa;have z2:wr.heap.size+1<w3.heap.size:=oaa;have z3:w.heap.size<w3.heap.size:=oaa;clear hb cs HC;generalize L.any (fun s=>decide (s.num=Q))=A at *
    cases A with
    | true =>
     go_wp2_with (at_builtin;refine wpList_append_own _ rfl _ _ 251 rfl w2.heap.size 254 i0 _ 3 40 underlying251 d9 e5 e6 e7 rfl oae (.slice qa ln qc) ln (qG L K) rfl ?how ⟨w3.heap.size,0,none⟩ 1 1 (jN ⟨(y:Int),Q,[]⟩ (.slice none 0 0)) rfl rfl ?c1 ?c2 ?c3 ?c4 ?c5 ?_)
     case how=>exact OM.out w3 _ (fun k E=>O.block k E) oaa
     case c1=>exact SV oaf oaf oaf
     case c2=>exact SY
     case c3=>unfold maxLen;omega
     case c4=>omega
     case c5=>first|omega|(simp;omega)
     intro v2 w4 b4 I _
     have a5:Hid (eX w2.heap.size (dM S H (P.take (i+1))) (fun j=>if j=ln then .slice none 0 0 else K j) v2 w4):=by
      rw[EQ.out];exact d6.out w3 w4 (.slice none 0 0) v2 ⟨(y:Int),Q,[]⟩ _ oaa (fun k E=>O.block k E) (World.ownsRow_nil _ _ _ _) I b4
     have b8:Below w2.heap.size w3 w4:=((yv _ w3).alloc oaa _).grown I oab (fun k E=>OB.out k E);have a9:Hid (Bl w2 w4):=e9.trans b8;have b2:=(b8.cell (p:=⟨w.heap.size,0,none⟩) (by show w.heap.size < _;omega)).trans b1;have e0:=a9.size;clear b4 I b8 b1 n0 n1 n2 n3 nf
     go_wp2_with fail
     go_roundg (m-(i+1))
     case measure=>omega
     case rel=>exact⟨i+1,_,oaa,oaa,by go_num,a9,b2,e0,a5⟩
    | false =>
     go_wp2_with fail
     refine yj (KM Q _ (HS.below (b0.trans (O.mono b0.size)))) ?_;rintro e w4 ⟨v1,rfl,hb,a7⟩;obtain⟨ga,gc,hv,_⟩:=uI a7;subst hv;have e1:=aA n1 hb;have e2:=aA n2 hb;have e3:=aA n3 hb;have ef:=(hb.frozen (p:=⟨wr.heap.size+1,2,none⟩) (by exact z2)).trans nf;have b2:=aA b1 hb;have e0:=hb.size;have b7:Hid _:=a7;have b6:Hid (Bl wr w4):=O.trans (hb.mono oaa);have a9:Hid (Bl w2 w4):=HB.trans (b6.mono b3);have z4:wr.heap.size+1<w4.heap.size:=oaa;have z5:w.heap.size<w4.heap.size:=oaa;clear hb a7 n0 n1 n2 n3 nf b1;obtain⟨M,hM⟩:∃ M,iZ S H Q=M:=⟨_,rfl⟩;rw[hM] at b7 EQ |-;obtain⟨mn,c8⟩:∃ z,M.length=z:=⟨_,rfl⟩;have g4:Hid (M.length=mn):=c8;rw[c8] at b7 |-;clear hM c8
     go_wp2_with (at_builtin;refine wpList_append_own _ rfl _ _ 251 rfl w2.heap.size 254 i0 _ 3 40 underlying251 d9 e5 e6 e7 rfl oae (.slice qa ln qc) ln (qG L K) rfl ?how ⟨w4.heap.size,0,none⟩ 1 1 (jN ⟨(y:Int),Q,M⟩ (.slice ga mn gc)) rfl rfl ?c1 ?c2 ?c3 ?c4 ?c5 ?_)
     case how=>exact OM.out _ _ (fun k E=>(yx _ _ _ _ (by show k≠wr.heap.size+1;omega)).trans (b6.block k E)) (by simp[World.setCell];omega)
     case c1=>exact SV oaf oaf oaf
     case c2=>exact SY
     case c3=>unfold maxLen;omega
     case c4=>omega
     case c5=>first|omega|(simp[World.setCell];omega)
     intro v2 w5 b5 J _
     have a5:Hid (eX w2.heap.size (dM S H (P.take (i+1))) (fun j=>if j=ln then .slice ga mn gc else K j) v2 w5):=by
      rw[EQ.out];refine d6.out _ w5 (.slice ga mn gc) v2 ⟨(y:Int),Q,M⟩ _ (by simp[World.setCell];omega) (fun k E=>(yx _ _ _ _ (by show k≠wr.heap.size+1;omega)).trans (b6.block k E)) ?_ J b5;have h6:w4.ownsRow w3.heap.size 3 1 (.slice ga mn gc) mn (M.map (Value.int .i64)):=b7.out;show World.ownsRow _ _ _ _ _ M.length _;rw[g4.out];exact fG (kW h6 oaa) (fun k E=>yx _ _ _ _ (by have:=(h6.lt k E).1;show k≠wr.heap.size+1;omega))
     have b9:Below w2.heap.size w4 w5:=(((yv _ w4).setCell (by show w2.heap.size<=wr.heap.size+1;omega) _).alloc (by simp[World.setCell];omega) _).grown J (by simp[World.setCell];omega) (fun k E=>OB.out k E);have d5:Hid (Bl w2 w5):=a9.trans b9;have g7:=(b9.cell (p:=⟨w.heap.size,0,none⟩) (by show w.heap.size < _;omega)).trans b2;have i1:=d5.size;clear b5 J b9 b2 e1 e2 e3 ef
     go_wp2_with fail
     go_roundg (m-(i+1))
     case measure=>omega
     case rel=>exact⟨i+1,_,oaa,oaa,by go_num,d5,g7,i1,a5⟩
  ·have h4:i=m:=oaa;subst h4
   have a5:Hid (eX w.heap.size (fC S H) K (.slice qa (dM S H (P.take i)).length qc) wr):=by
    have h:=HO.base (B' := w.heap.size) oaa;rw[g6.out];have e:P.take i=P:=List.take_of_length_le (by rw[HM.out];omega);rw[e] at h |-;exact h
   clear HO c9 HF;generalize (dM S H (P.take i)).length=ln at *
   go_wp2
   go_ret;exact⟨_,K,rfl,b0.out,a5.out⟩
theorem Gu:(prog.info? 48).map (fun i=>(i.zero,i.size,i.bytes))=some (some (.slice none 0 0),1,24):=oad
theorem Gv(n:Nat)(hn:n<=24)(w:Wd):(Instr.makeSlice 242 (.int .i64 (n:Int)) (.int .i64 (n:Int))).run prog w=.ok (.slice (some ⟨w.heap.size,0,none⟩) n n) (w.alloc (.cells (madeCells #[.slice none 0 0] n) 48)) :=
 run_make_row' (P:=prog) 242 48 (.slice none 0 0) 24 underlying242 Gu rfl .i64 .i64 n oaa oaa w
def gH(w:Wd)(D n:Nat)(g:Nat->List Int):Prop :=
 (∀ p,p<n->∃ ga gc,w.cell? ⟨D,p,none⟩=some (.slice ga (g p).length gc)/\aG w ga (g p)/\∀ b o s,ga=some ⟨b,o,s⟩->D<b)/\∀ p,w.frozen? ⟨D,p,none⟩=false
theorem gH.below{w:World}(h:gH w D n g)(hg:D<w.heap.size)(hb:Bl w w'):gH w' D n g :=
 ⟨fun p I=>by
  obtain⟨ga,gc,h1,E,F⟩:=h.1 p I;exact⟨ga,gc,(hb.cell (by exact hg)).trans h1,E.below hb,F⟩,fun p=>(hb.frozen (by exact hg)).trans (h.2 p)⟩
theorem TC(h:aG w ga l){o:Nat}(hb:∀ b o s,ga=some ⟨b,o,s⟩->D<b):aG (w.setCell ⟨D,o,none⟩ v) ga l:=fun i hi=>by
 obtain⟨b,E,e,hc⟩:=h i hi;have:=hb b E none e;exact⟨b,E,e,(yE (yx _ _ _ _ (by show b≠D;omega))).trans hc⟩
theorem gH.set{F:Nat}(h:gH w F n g){pl:Nat}{gc:Nat}(T:pl<n)(hi:aG w ga l)(hb:∀ b o s,ga=some ⟨b,o,s⟩->F<b) :
  gH (w.setCell ⟨F,pl,none⟩ (.slice ga l.length gc)) F n (fun p=>if p=pl then l else g p):=by
 refine⟨fun p I=>?_,fun p=>?_⟩
 ·by_cases e:p=pl
  ·subst e;obtain⟨D,E,h1,_⟩:=h.1 p T;simp only[if_true];exact⟨ga,gc,World.cell?_setCell_same _ _ _ h1,TC hi hb,hb⟩
  ·simp only[yd e];obtain⟨D,E,h1,O,J⟩:=h.1 p I;exact⟨D,E,(World.cell?_setCell_other _ _ _ _ (by intro M;cases M;exact e rfl)).trans h1,TC O J,J⟩
 ·rw[World.frozen?_setCell];exact h.2 p
theorem gH.congr{E:Nat}{D:Nat->List Int}(h:gH w E n g)(e:∀ p,p<n->g p=D p):gH w E n D :=
 ⟨fun p F=>by rw[<- e p F];exact h.1 p F,h.2⟩
theorem eX.far(h:eX B L K v w):∃ a c,v=.slice a L.length c/\∀ i,i<L.length->∃ b,a=some ⟨b,0,none⟩/\B<=b/\w.cell? ⟨b,i*3,none⟩=some (.int .i64 (slt L i).pl)/\w.cell? ⟨b,i*3+1,none⟩=some (.int .i64 (slt L i).num)/\∃ ga gc,w.cell? ⟨b,i*3+2,none⟩=some (.slice ga (slt L i).gv.length gc)/\aG w ga (slt L i).gv/\∀ D o s,ga=some ⟨D,o,s⟩->B<=D:=by
 obtain⟨J,I⟩:=h;have E:=J;obtain⟨hl,h⟩:=J;rcases h with ⟨rfl,h0⟩ |⟨g,cap,M,rfl,hb,hg,h1,U,Z,h4⟩
 ·exact⟨none,0,by rw[h0],fun i hi=>oaa⟩
 ·refine⟨some ⟨g,0,none⟩,cap,rfl,fun i hi=>⟨g,rfl,hb,?_⟩⟩
  have hc:∀ j,j<3->w.cell? ⟨g,i*3+j,none⟩=(jN (slt L i) (K i))[j]?:=fun j T=>by
   rw[<- JJ L K T hi];exact E.cellAt (i*3+j) oaa
  obtain⟨sa,sc,F,O⟩:=tO (I i hi);refine⟨hc 0 oaa,hc 1 oaa,sa,sc,?_,O,fun D o s e=>?_⟩
  ·rw[hc 2 oaa,F];rfl
  ·have:=I i hi;rw[F,e] at this;exact(this.lt D rfl).1
theorem Gw(a:OA)(c:Nat)(S:List Nd)(H:Nat)(w:Wd)(wf:WF S)(M:H<S.length)(E:aD w a S) :
  yO 214 #[.agg #[.slice a S.length c],.int .i64 (H:Int)] w fun e w' => ∃ v K,e=.returned v/\Below w.heap.size w w' /\ eX w.heap.size (fC S H) K v w' := by
 by_cases D:dA S H = -1
 ·refine(Gq a c S H w (by have:=wf.small;omega) E D).mono fun e w' ⟨O,hb⟩=>?_;have F:fC S H=[]:=by unfold fC;rw[ye D]
  refine⟨_,fun _=>.slice none 0 0,O,hb,?_⟩;rw[F];exact⟨World.ownsRow_nil _ _ _ _,fun i hi=>by cases hi⟩
 ·obtain⟨r,h1,I,J,_⟩:=rR S H D;exact Gt a c S H r w wf wf.big M h1 I J E
theorem Gx(wf:WF S)(H:Nat):(fC S H).length<=24:=by
 unfold fC;split
 ·simp
 ·rename_i E;obtain⟨r,h1,D,_⟩:=rR S H E;rw[D,yk];have:=SG S H (bZ S S.length r);have:=uD wf h1;have:=wf.small;omega
theorem Gy(S:List Nd)(h:Nat):oU S h (fC S h)=dQ S (h+1):=by funext p;rfl
theorem Gz(w:Wd)(D o:Nat)(v:Value):Off (fun k=>k=D) w (w.setCell ⟨D,o,none⟩ v):=⟨rfl,rfl,rfl,by simp[World.setCell],fun _ _ E=>yx _ _ _ _ E⟩
theorem Ha(a:OA)(c:Nat)(S:List Nd)(w:Wd)(wf:WF S)(hS:aD w a S) :
  yO 202 #[.agg #[.slice a S.length c]] w fun e w' => e=.returned (.slice (some ⟨w.heap.size+1,0,none⟩) S.length S.length)/\Below w.heap.size w w' /\ w.heap.size+1<w'.heap.size/\gH w' (w.heap.size+1) S.length (dQ S S.length):=by
 have hN:=wf.small;have c7:=Gv S.length hN;have DS:Hid (∀ (h:Nat),h<S.length->∀ W,aD W a S->Calls _ _ _ _ _):=fun h hh W hW=>Gw a c S h W wf hh hW;have HS:Hid (aD w a S):=hS
 have PL:Hid (∀ (h i:Nat),i<(fC S h).length->∃ k:Nat,(slt (fC S h) i).pl=k/\k<S.length):=fun h i hi=>by
  obtain⟨r,k,j,_,_,_,e,hk,_⟩:=uK wf (H:=h) (s:=slt (fC S h) i) (by rw[rT hi];exact List.getElem_mem hi);exact⟨k,e,hk⟩
 have FW:Hid (∀ h,(fC S h).length<=24):=fun h=>Gx wf h;have ND:Hid (∀ h,((fC S h).map Slt.pl).Nodup):=fun h=>Gf wf;clear hS wf;obtain⟨n,hn⟩:∃ n,S.length=n:=⟨_,rfl⟩;have HN:Hid (S.length=n):=hn;rw[hn] at hN c7 DS PL |-;clear hn
 have G0:Hid (gH ((w.alloc (.cells #[.slice a n c] 43)).alloc (.cells (madeCells #[.slice none 0 0] n) 48)) (w.heap.size+1) n (dQ S 0)):=by
  refine⟨fun p hp=>⟨none,0,?_,(fun i hi=>absurd hi (yB _)),(fun b o s e=>by cases e)⟩,fun p=>?_⟩
  ·have:=aK (w.alloc (.cells #[.slice a n c] 43)) (madeCells #[.slice none 0 0] n) 48 p (v:=.slice none 0 0) (by simp[madeCells,hp,Nat.mod_one]);show World.cell? _ _=some (.slice none ([]:List Int).length 0);simpa using this
  ·go_simp
 go_enter func202,ntmps202
 go_wp2_with fail
 go_loopg [14] n (fun g s14 wr=>∃ h:Nat,h<=n/\n-h<=g/\s14=.int .i64 h/\Hid (Bl w wr)/\wr.cell? ⟨w.heap.size,0,none⟩=some (.slice a n c)/\w.heap.size+1<wr.heap.size/\Hid (gH wr (w.heap.size+1) n (dQ S h)))
 case atStart=>exact⟨0,oaa,oaa,rfl,aM _ _ _,oaf,oac,G0⟩
 case round =>
  obtain⟨h,hh,hg,rfl,HB,cs,b0,HG⟩:=hrel;clear G0;by_cases c6:h<n
  ·have c8:(h:Int)<(n:Int):=oaa
   go_wp2_with fail
   refine yj (DS h c6 _ (HS.below HB)) ?_;rintro e w3 ⟨v,K,rfl,hb,hO⟩;obtain⟨qa,qc,hv,O⟩:=hO.far;subst hv;have M:Hid _:=O;have E:=aA cs hb;have e2:=hb.size;have b4:Hid (Bl w w3):=HB.trans (hb.mono HB.size);have b6:Hid (gH w3 (w.heap.size+1) n (dQ S h)):=HG.below b0 hb;have Z:Hid _:=PL.out h;have fw:=FW.out h;have b8:Hid _:=ND.out h;have GA:Hid (oU S h (fC S h)=dQ S (h+1)):=Gy S h;clear hb hO O cs HG;generalize fC S h=L at *;obtain⟨m,hm⟩:∃ z,L.length=z:=⟨_,rfl⟩;have HM:Hid (L.length=m):=hm;rw[hm] at M Z fw |-;clear hm
   go_wp2_with fail
   go_loopg [21] m (fun g s21 w2=>∃ i:Nat,i<=m/\m-i<=g/\s21=.int .i64 i/\Hid (Off (fun k=>k=w.heap.size+1) w3 w2)/\w2.cell? ⟨w.heap.size,0,none⟩=some (.slice a n c)/\w3.heap.size<=w2.heap.size/\Hid (gH w2 (w.heap.size+1) n (oU S h (L.take i))))
   case atStart=>exact⟨0,oaa,oaa,rfl,Off.refl _ _,E,yr _,b6⟩
   case round =>
    obtain⟨i,hi,e0,rfl,U,a5,d5,I⟩:=hrel;clear E;by_cases F:i<m
    ·have c9:(i:Int)<(m:Int):=oaa;obtain⟨b,ea,d9,f0,f1,ga,gc,f2,a8,D⟩:=M.out i F;obtain⟨pl,a6,a9⟩:=Z.out i F;subst ea;rw[a6] at f0;have x0:=(U.cell (p:=⟨b,i*3,none⟩) (by exact yi _ _ f0) (by show ¬ b=_;omega)).trans f0;have x1:=(U.cell (p:=⟨b,i*3+1,none⟩) (by exact yi _ _ f1) (by show ¬ b=_;omega)).trans f1;have x2:=(U.cell (p:=⟨b,i*3+2,none⟩) (by exact yi _ _ f2) (by show ¬ b=_;omega)).trans f2;have d4:(pl:Int)<(n:Int):=oaa
     have b7:Hid (aG wr ga (slt L i).gv):=fun j hj=>by
      obtain⟨b', o', e,hc⟩:=a8 j hj;have:=D b' o' none e;exact⟨b', o', e,(U.cell (by exact yi _ _ hc) (by show ¬ b' = _;omega)).trans hc⟩
     have b5:Hid (∀ b o s,ga=some ⟨b,o,s⟩->w.heap.size+1<b):=fun b o s e=>by have:=D b o s e;omega
     have EQ:Hid (∀ p,p<n->(if p=pl then (slt L i).gv else oU S h (L.take i) p)=oU S h (L.take (i+1)) p):=fun p hp=>by
      have a7:i<L.length:=(by rw[HM.out];exact F);rw[Gg b8.out a7,<- rT a7,a6];by_cases e:p=pl
      ·subst e;simp
      ·rw[yd e,yd oaa]
     obtain⟨d8,d6,b9,_⟩:=I.out.1 pl a9;have d7:=I.out.2 pl
     have b2:Hid (∀ o1:Obj,gH ((wr.setCell ⟨w.heap.size+1,pl,none⟩ (.slice ga (slt L i).gv.length gc)).alloc o1) (w.heap.size+1) n (oU S h (L.take (i+1)))):=fun o1 =>
      ((I.set (gc:=gc) a9 b7.out b5.out).congr EQ.out).below (by simp[World.setCell];omega) (aB _ _)
     have E:∀ v,(wr.setCell ⟨w.heap.size+1,pl,none⟩ v).cell? ⟨w.heap.size,0,none⟩=some (.slice a n c):=fun v=>(yE (yx _ _ _ _ (by show w.heap.size≠w.heap.size+1;omega))).trans a5;have e1:w.heap.size+1<wr.heap.size:=oaa;have b1:Hid _:=E;clear f0 f1 f2 a8 D E;generalize (slt L i).gv.length=gl at *;generalize (slt L i).num=nu at *
     go_wp2_with fail
     go_roundg (m-(i+1))
     case measure=>omega
     case rel=>exact⟨i+1,oaa,oaa,by go_num,(U.trans (Gz wr _ pl _)).trans (Off.of_below (aB _ _)),aA (b1 _) (aB _ _),by simp[World.setCell];omega,b2.out _⟩
    ·have T:i=m:=oaa;subst T
     have J:Hid (gH wr (w.heap.size+1) n (dQ S (h+1))):=by
      have h1:=I.out;rw[List.take_of_length_le (by rw[HM.out];omega),GA.out] at h1;exact h1
     have b3:Hid (Bl w wr):=b4.trans (U.below oaa (fun k hk=>by have:k=w.heap.size+1:=hk;omega))
     go_wp2_with fail
     go_roundg (n-(h+1))
     case measure=>omega
     case rel=>exact⟨h+1,oaa,oaa,by go_num,b3,a5,oaa,J⟩
  ·have T:h=n:=oaa;subst T;have J:=HG;rw[<- HN.out] at J;clear HG
   go_wp2_with fail
   go_ret;exact⟨rfl,HB.out,b0,by rw[<- HN.out];exact J.out⟩
