/-
  x
-/
import Derived.Test.YtcbcpomacdngmaaGreatA7
import Derived.Deep.RegionLawGrows
namespace Go.Proofs.YtcbcpomacdngmaaGreat
set_option maxRecDepth 100000
set_option maxHeartbeats 4000000
set_option linter.unusedVariables false
open Go.RowKit Tryz
variable{S:List Nd}{D pa k y:Nat}{w w1:Wd}{x u p:Int}{ps:List Int}{v:Value}{near:Bool}
def leaveG(S:List Nd)(D:Nat):List Nd:=if (nd S D).p = -1 then S else eD S (nd S D).p.toNat D
theorem oM(S:List Nd)(D:Nat):(leaveG S D).length=S.length:=by
 unfold leaveG;split
 ·rfl
 ·exact rF _ _ _
theorem Own.up{B g:Nat}{kb kc:Nat->Nat}(h:Own w B g S kb kc S.length)(w3:Wd)(D:∀ b,g<=b->w3.heap[b]?=w.heap[b]?):aD w3 (some ⟨g,0,none⟩) S:=by
 obtain⟨hB,F,hF,hN,hg,hd⟩:=h;refine Own.nds (B:=B) (kb:=kb) (kc:=kc) ⟨hB,F,hF.of_block (D g (yr _)),fun i hi=>?_,hg,hd⟩;obtain⟨I,J,M,O,T,U,Z,e7,e8,E,G,hG,e9⟩:=hN i hi;exact⟨I,J,M,O,T,U,Z,e7,e8,E,G,hG.of_block (D (kb i) (Nat.le_of_lt (hg i hi))),e9⟩
def AO(g n:Nat)(kb:Nat->Nat):Nat->Prop:=fun b=>b=g\/∃ i,i<n/\b=kb i
theorem Dc(B g c:Nat)(S:List Nd)(kb kc:Nat->Nat)(D:Nat)(w:Wd)(M:Own w B g S kb kc S.length)(hch:D<S.length)(E:(nd S D).p = -1\/∃ pa:Nat,pa<S.length/\pa≠D/\(nd S D).p=pa) :
  yO 186 #[.slice (some ⟨g,0,none⟩) S.length c,.int .i64 D] w fun e w' => e=.returned (.tuple #[])/\Off (AO g S.length kb) w w' /\ Own w' B g (leaveG S D) kb kc (leaveG S D).length:=by
 rcases E with E |⟨pa,hpa,U,E⟩
 ·have hc:w.cell? ⟨g,D*8+4,none⟩=some (.int .i64 (-1)):=by
   obtain⟨_,F,hF,hN,_,_⟩:=M;obtain⟨_,_,_,_,Z,_⟩:=hN D hch;rw[hF.cell oaa,Z,E]
  refine(Cx g c S.length D w hch hc).mono ?_;rintro e w' ⟨T,hb⟩;refine⟨T,Off.of_below hb,?_⟩;unfold leaveG;rw[ye E];exact M.below hb
 ·refine(QM B g c S kb kc pa D w M hpa hch U E).mono ?_;rintro e w' ⟨T,J,O⟩;refine⟨T,J.mono (fun k _ I=>?_),?_⟩
  ·rcases I with I|I
   ·exact Or.inl I
   ·exact Or.inr ⟨pa,hpa,I⟩
  ·unfold leaveG;rw[yd oaa,E,yk];exact O
theorem De:(prog.info? 61).map (fun i=>(i.zero,i.size,i.bytes))=some (some (.agg #[.int .i64 0,.int .i64 0]),2,16):=oad
theorem Df(ha:OA)(hc:Nat)(hs:List (Int × Int))(p u:Int)(w:Wd)(J:hs.length<=9223372036854775807)(D:aZ w ha hs) :
  yO 206 #[.slice ha hs.length hc,.agg #[.int .i64 p,.int .i64 u]] w fun e w' => e=.returned (.bool (decide ((p,u) ∈ hs)))/\Below w.heap.size w w' := by
 have d1:=fun F=>Co ha hc hs p u (w.alloc F) J (D.below ((yv _ _).alloc (yr _) F))
 have R:Hid (∀ r:Int,((0<=r)↔(p,u) ∈ hs)->decide (0<=r)=decide ((p,u) ∈ hs)):=fun r h=>by
  by_cases e:(p,u) ∈ hs
  ·rw[yI e,yI (h.2 e)]
  ·rw[yH e,yH (fun x=>e (h.1 x))]
 clear D;generalize decide ((p,u) ∈ hs)=q at *;generalize ((p,u) ∈ hs)=Q at *;generalize hs.length=m at *
 go_enter func206,ntmps206
 go_wp2_with (go_at_call 216;refine(d1 _).mono ?_;rintro e w1 ⟨r,rfl,hb,E⟩;have I:Hid _:=E;clear E)
 go_ret;refine⟨?_,((yv _ _).alloc (yr _) _).trans (hb.mono oac)⟩;rw[<- R.out r I.out];rfl
theorem mR{a:OA}{n c:Nat}{D E:Int}(hb:Below (w.heap.size+1+1+1+1) ((((w.alloc (.cells #[.slice a n c] 43)).alloc (.cells #[.int .i64 p,.int .i64 D] 61)).alloc (.cells #[.int .i64 x,.int .i64 E] 61)).alloc (.cells #[.slice none 0 0] 43)) w1) :
  w1.cell? ⟨w.heap.size,0,none⟩=some (.slice a n c)/\w1.cell? ⟨w.heap.size+1,0,none⟩=some (.int .i64 p)/\w1.cell? ⟨w.heap.size+1,1,none⟩=some (.int .i64 D)/\w1.cell? ⟨w.heap.size+1+1,0,none⟩=some (.int .i64 x)/\w1.cell? ⟨w.heap.size+1+1,1,none⟩=some (.int .i64 E)/\w1.cell? ⟨w.heap.size+1+1+1,0,none⟩=some (.slice none 0 0)/\(∀ o,w1.frozen? ⟨w.heap.size+1+1+1,o,none⟩=false):=by
 refine⟨?_,?_,?_,?_,?_,?_,fun o=>?_⟩
 ·exact(hb.cell oag).trans oaf
 ·exact(hb.cell oag).trans oaf
 ·exact(hb.cell oag).trans oaf
 ·exact(hb.cell oag).trans oaf
 ·exact(hb.cell oag).trans oaf
 ·exact(hb.cell oag).trans oaf
 ·exact(hb.frozen oag).trans oaf
theorem fB(w:Wd)(D E o3 F:Obj):Bl w ((((w.alloc D).alloc E).alloc o3).alloc F):=(dC w D E o3).alloc oab _
theorem nO{p:Addr}(h:w1.cell? p=some v)(D:Obj):(w1.alloc D).cell? p=some v :=
 (((yv _ _).alloc (yr _) D).cell (yi _ _ h)).trans h
theorem QN(W:Wd)(b:Nat)(p u x y:Int)(h1:W.cell? ⟨b,0,none⟩=some (.int .i64 p))(D:W.cell? ⟨b,1,none⟩=some (.int .i64 u))(E:W.cell? ⟨b,2,none⟩=some (.int .i64 x))(F:W.cell? ⟨b,3,none⟩=some (.int .i64 y)):aZ W (some ⟨b,0,none⟩) [(p,u),(x,y)]:=fun i hi=>by
 match i,hi with
 | 0,_=>exact⟨b,0,rfl,by simpa using h1,by simpa using D⟩
 | 1,_=>exact⟨b,0,rfl,by simpa using E,by simpa using F⟩
theorem uB{y:Int}(hb:Below (w.heap.size+1+1+1) (((w.alloc (.cells #[v] 43)).alloc (.cells #[.int .i64 x,.int .i64 y] 61)).alloc (.cells #[.bool false,.int .i64 0,.int .i64 0,.int .i64 0,.int .i64 0,.slice none 0 0,.int .i64 0,.bool false] 57)) w1) :
  (w1.cell? ⟨w.heap.size,0,none⟩=some v/\w1.cell? ⟨w.heap.size+1,0,none⟩=some (.int .i64 x)/\w1.cell? ⟨w.heap.size+1,1,none⟩=some (.int .i64 y)) /\
  (w1.cell? ⟨w.heap.size+1+1,0,none⟩=some (.bool false)/\w1.cell? ⟨w.heap.size+1+1,1,none⟩=some (.int .i64 0)/\w1.cell? ⟨w.heap.size+1+1,2,none⟩=some (.int .i64 0)/\w1.cell? ⟨w.heap.size+1+1,3,none⟩=some (.int .i64 0)/\w1.cell? ⟨w.heap.size+1+1,4,none⟩=some (.int .i64 0)/\w1.cell? ⟨w.heap.size+1+1,5,none⟩=some (.slice none 0 0)/\w1.cell? ⟨w.heap.size+1+1,6,none⟩=some (.int .i64 0)/\w1.cell? ⟨w.heap.size+1+1,7,none⟩=some (.bool false)) /\
  (∀ o,w1.frozen? ⟨w.heap.size+1+1,o,none⟩=false)/\Below w.heap.size w w1:=by
 refine⟨⟨?_,?_,?_⟩,⟨?_,?_,?_,?_,?_,?_,?_,?_⟩,fun o=>?_,(dC _ _ _ _).trans (hb.mono oaa)⟩
 all_goals first|exact(hb.cell oag).trans oaf|exact(hb.frozen oag).trans oaf
def aP(S:List Nd)(p u:Int):Int:=if dG S=0 then iX S p u else dG S
theorem AR(h:aP S p u=0):dG S=0/\iX S p u=0:=by
 unfold aP at h;by_cases hc:dG S=0
 ·rw[ye hc] at h;exact⟨hc,h⟩
 ·rw[yd hc] at h;exact absurd h hc
theorem AU(a:OA)(c:Nat)(S:List Nd)(p u E:Int)(w:Wd)(hN:S.length<=9223372036854775807)(hB:Big S)(hS:aD w a S)(I:aP S p u=E)(a5:E≠0) :
  yO 14 #[.agg #[.slice a S.length c],.agg #[.int .i64 p,.int .i64 u]] w fun e w' => e=.returned (.tuple #[.agg #[.bool false,.int .i64 0,.int .i64 0,.int .i64 0,.int .i64 0,.slice none 0 0,.int .i64 0,.bool false],.int .i64 E])/\Below w.heap.size w w' := by
 have d0:=fun W hW=>tV a c S W hN hB hW;have d1:=fun W hW=>IC a c S p u W hN hW;have HS:Hid (aD w a S):=hS;have hz:(E == 0)=false:=by simp[a5]
 unfold aP at I;by_cases hc:dG S=0
 ·rw[ye hc] at I;rw[I] at d1;rw[hc] at d0;have D0:Hid _:=d0;have D1:Hid _:=d1;clear hS d0 d1 I hB hc;generalize S.length=n at *
  go_enter func14,ntmps14
  go_wp2_with (go_at_call 42;refine(D0 _ (HS.below (dC _ _ _ _))).mono ?_;rintro e w1 ⟨rfl,D⟩;simp only[yw] at D;obtain⟨⟨l0,l1,l2⟩,⟨U,Z,z2,z3,z4,z5,z6,z7⟩,J,F⟩:=uB D)
  refine(D1 _ (HS.below F)).mono ?_;rintro e w2 ⟨rfl,O⟩;have T:=D.size;simp only[yw] at T;have M:=D.trans (O.mono T);clear l0 l1 l2 U Z z2 z3 z4 z5 z6 z7 J F D O;obtain⟨⟨l0,l1,l2⟩,⟨U,Z,z2,z3,z4,z5,z6,z7⟩,J,F⟩:=uB M
  go_wp2
  refine yz (v:=.tuple #[.agg #[.bool false,.int .i64 0,.int .i64 0,.int .i64 0,.int .i64 0,.slice none 0 0,.int .i64 0,.bool false],.int .i64 E]) (by simp[results,results14,go_sem,U,Z,z2,z3,z4,z5,z6,z7]) rfl ⟨rfl,?_⟩;exact(((((((F.setCell oab _).setCell oab _).setCell oab _).setCell oab _).setCell oab _).setCell oab _).setCell oab _).setCell oab _
 ·rw[yd hc] at I;rw[I] at d0;have D0:Hid _:=d0;clear hS d0 d1 I hB hc;generalize S.length=n at *
  go_enter func14,ntmps14
  go_wp2_with (go_at_call 42;refine(D0 _ (HS.below (dC _ _ _ _))).mono ?_;rintro e w1 ⟨rfl,D⟩;simp only[yw] at D;obtain⟨⟨l0,l1,l2⟩,⟨U,Z,z2,z3,z4,z5,z6,z7⟩,J,F⟩:=uB D)
  refine yz (v:=.tuple #[.agg #[.bool false,.int .i64 0,.int .i64 0,.int .i64 0,.int .i64 0,.slice none 0 0,.int .i64 0,.bool false],.int .i64 E]) (by simp[results,results14,go_sem,U,Z,z2,z3,z4,z5,z6,z7]) rfl ⟨rfl,?_⟩;exact(((((((F.setCell oab _).setCell oab _).setCell oab _).setCell oab _).setCell oab _).setCell oab _).setCell oab _).setCell oab _
theorem find_ok(a:OA)(c:Nat)(S:List Nd)(k:Nat)(u:Int)(w:Wd)(hN:S.length<=9223372036854775807)(hB:Big S)(hS:aD w a S)(hk:k<S.length)(hE:aP S k u=0)(hK:(nd S k).ks.length<=1000000) :
  yO 14 #[.agg #[.slice a S.length c],.agg #[.int .i64 k,.int .i64 u]] w fun e w' => ∃ g,e=.returned (.tuple #[.agg #[.bool (nd S k).u,.int .i64 (nd S k).n,.int .i64 (nd S k).t,.int .i64 (nd S k).m,.int .i64 (nd S k).p,.slice (some ⟨g,0,none⟩) (nd S k).ks.length (nd S k).ks.length,.int .i64 (nd S k).h,.bool (nd S k).c],.int .i64 0])/\Below w.heap.size w w' /\ aG w' (some ⟨g,0,none⟩) (nd S k).ks:=by
 have d1:=fun W Z=>IC a c S k u W hN Z;rw[(AR hE).2] at d1;have D1:Hid _:=d1;have d0:=fun W Z=>tV a c S W hN hB Z;rw[(AR hE).1] at d0;have D0:Hid _:=d0;have HS:Hid (aD w a S):=hS;have d2:=fun ka kc W Z=>QB (nd S k) ka kc W hK Z;have D2:Hid _:=d2;have NX:Hid (∀ w1,Bl w w1->∃ b o,a=some ⟨b,o,none⟩/\nM w1 b (o+k*8) (nd S k)):=fun w1 h1=>(hS.below h1) k hk;have b2:(k:Int)<(S.length:Int):=oaa
 have IR:Hid (∀ (W:Wd) g,W.rowIs g 3 (nd S k).ks.length (fun j=>.int .i64 ((nd S k).ks.getD j 0))->aG W (some ⟨g,0,none⟩) (nd S k).ks):=fun W g h=>qB h (yr _) (fun _ _=>rfl);clear hS d0 d1 d2 hE hK hB;generalize nd S k=x at *;obtain⟨xu,xn,xt,xm,xp,a9,xh,xc⟩:=x;unfold nM at NX;dsimp only at *;generalize hL:a9.length=L at *;have HL:Hid _:=hL;clear hL;generalize S.length=n at *
 go_enter func14,ntmps14
 go_wp2_with (go_at_call 42;refine(D0 _ (HS.below (dC _ _ _ _))).mono ?_;rintro e w0 ⟨rfl,D⟩;simp only[yw] at D;obtain⟨⟨l0,l1,l2⟩,⟨z0,z1,z2,z3,z4,z5,z6,z7⟩,F,M⟩:=uB D)
 refine(D1 _ (HS.below M)).mono ?_;rintro e w1 ⟨rfl,I⟩;have a7:=D.size;simp only[yw] at a7;have T:=D.trans (I.mono a7);clear l0 l1 l2 z0 z1 z2 z3 z4 z5 z6 z7 F M D I;obtain⟨⟨l0,l1,l2⟩,⟨z0,z1,z2,z3,z4,z5,z6,z7⟩,F,E⟩:=uB T;obtain⟨b,o,rfl,c0,c1,c2,c3,c4,⟨ka,kc,c5,a6⟩,c6,c7⟩:=NX.out _ E;have b1:Hid _:=a6;have U:Hid _:=T;clear a6 T E
 go_wp2_with fail
 refine(D2 ka kc _ b1.out).mono ?_;rintro e w2 ⟨g,rfl,a5,hg,O⟩;have a8:=U.size;simp only[yw] at a8;have J:=U.trans (a5.mono a8);clear l0 l1 l2 z0 z1 z2 z3 z4 z5 z6 z7 F c0 c1 c2 c3 c4 c5 c6 c7;obtain⟨⟨l0,l1,l2⟩,⟨z0,z1,z2,z3,z4,z5,z6,z7⟩,F,E⟩:=uB J;have b0:Hid _:=E;have HR:Hid (w2.rowIs g 3 L (fun j=>.int .i64 (a9.getD j 0))):=O;clear a5 J E O
 go_wp2
 refine yz (v:=.tuple #[.agg #[.bool xu,.int .i64 xn,.int .i64 xt,.int .i64 xm,.int .i64 xp,.slice (some ⟨g,0,none⟩) L L,.int .i64 xh,.bool xc],.int .i64 0]) (by simp[results,results14,go_sem,z0,z1,z2,z3,z4,z5,z6,z7]) rfl ⟨g,rfl,?_,?_⟩
 ·exact(((((((b0.setCell oab _).setCell oab _).setCell oab _).setCell oab _).setCell oab _).setCell oab _).setCell oab _).setCell oab _
 ·refine IR.out _ g ?_;exact(((((((HR.setOther oab _).setOther oab _).setOther oab _).setOther oab _).setOther oab _).setOther oab _).setOther oab _).setOther oab _
theorem WF.leaveG{S:List Nd}(h:WF S){D:Nat}(hch:D<S.length):WF (leaveG S D):=by
 unfold Go.Proofs.YtcbcpomacdngmaaGreat.leaveG;split
 ·exact h
 ·rename_i E;obtain⟨pa,e,_⟩:=h.parent_place hch E;rw[e,yk];exact h.leave hch e
theorem uG(S:List Nd)(D j:Nat):(nd (leaveG S D) j).u=(nd S j).u/\(nd (leaveG S D) j).n=(nd S j).n/\(nd (leaveG S D) j).h=(nd S j).h/\(nd (leaveG S D) j).t=(nd S j).t/\(nd (leaveG S D) j).m=(nd S j).m/\(nd (leaveG S D) j).c=(nd S j).c:=by
 unfold leaveG;split
 ·exact⟨rfl,rfl,rfl,rfl,rfl,rfl⟩
 ·exact rJ S _ D j
theorem JA(S:List Nd){j:Nat}(E:j<S.length):(nd (leaveG S D) j).p=if j=D then -1 else (nd S j).p:=by
 unfold leaveG;split
 ·rename_i h;split
  ·rename_i e;rw[e];exact h
  ·rfl
 ·exact uF S E
theorem Du(hpa:pa<S.length)(I:dF S pa D=false):dF (leaveG S D) pa D=false:=by
 cases hb:dF (leaveG S D) pa D with
 | false=>rfl
 | true =>
  have hl:=oM S D;obtain⟨j,O,J,T⟩:=uE (by rw[hl];exact hpa) hb;rw[hl] at J
  have:Up S j pa D:=AZ hl (fun y M z E=>by
   unfold bA at *;rw[(uG S D y).2.2.1,JA S M] at E;by_cases F:y=D
   ·subst F;rw[ye rfl] at E;by_cases hh:(nd S y).h = -1
    ·rw[ye hh] at E;omega
    ·rw[yd hh] at E |-;exact E
   ·rw[yd F] at E;exact E) hpa T
  rw[QY hpa O J this] at I;cases I
theorem RB(h:mQ S D pa=true):(nd S D).h = -1/\pa≠D/\dF S pa D=false:=by
 unfold mQ at h;simp only[Bool.and_eq_true,Bool.not_eq_true', decide_eq_true_eq,decide_eq_false_iff_not] at h;exact⟨h.1,fun e=>h.2.1 (by rw[e]),h.2.2⟩
structure uH (S:List Nd) (pa ch:Nat):Prop where
 wf:WF S
 hpa:pa<S.length
 hch:ch<S.length
 hpu:(nd S pa).u=true
 hcu:(nd S ch).u=true
 fits:mQ S ch pa=true
theorem uH.insert(h:uH S pa D)(at' : Nat):WF (dD (leaveG S D) pa D at'):=by
 obtain⟨f1,f2,f3⟩:=RB h.fits;have hl:=oM S D;refine(h.wf.leaveG h.hch).enter (by rw[hl];exact h.hpa) (by rw[hl];exact h.hch) ?_ ?_ ?_ ?_ f2 (Du h.hpa f3)
 ·rw[(uG S D pa).1];exact h.hpu
 ·rw[(uG S D D).1];exact h.hcu
 ·rw[JA S h.hch,ye rfl]
 ·rw[(uG S D D).2.2.1];exact f1
theorem Dv{ks:List Int}{v:Int}(h:v ∈ ks):∃ k:Nat,idx ks v=k/\k<ks.length/\ks.getD k 0=v:=by
 refine⟨ks.idxOf v,by unfold idx;rw[ye h],List.idxOf_lt_length_of_mem h,?_⟩;rw[aJ ks 0 (List.idxOf_lt_length_of_mem h)];exact List.getElem_idxOf (List.idxOf_lt_length_of_mem h)
theorem uH.ahead{q:Nat}(h:uH S pa D)(I:q<S.length)(F:(nd S q).p=pa)(E:q≠D):∃ at' : Nat,idx (nd (leaveG S D) pa).ks q=at' /\ at' < (nd (leaveG S D) pa).ks.length/\(nd (leaveG S D) pa).ks.getD at' 0=q:=by
 have hl:=oM S D;have:=(h.wf.leaveG h.hch).in_kids (k:=q) (y:=pa) (by rw[hl];exact I) (by rw[JA S I,yd E];exact F);exact Dv this.2
theorem WF.kids_small(h:WF S){i:Nat}(hi:i<S.length):(nd S i).ks.length<=24:=by
 have h1:=h.kids_nodup hi
 have:=h1.length_le_of_subset (l₂:=(List.range S.length).map (fun k:Nat=>(k:Int))) (fun x E=>by
  obtain⟨k,rfl,D,_⟩:=h.kid hi E;exact List.mem_map.2 ⟨k,List.mem_range.2 D,rfl⟩)
 rw[List.length_map,List.length_range] at this;exact yJ this h.small
theorem WF.big(h:WF S):Big S:=fun _ hi=>yJ (h.kids_small hi) oaa
theorem Dw(E:k<S.length)(F:(nd S k).u=true)(hn:(nd S k).n=u)(h:WF S):iX S k u=0:=by
 have h1:=(jY (h.node k E)).1;have D:=(jY (h.node k E)).2.2;unfold gV at D;rw[ye F] at D;unfold iO at h1;simp only[Bool.and_eq_true,decide_eq_true_eq] at h1;have I:(nd S k).n≠0:=fun e=>by rw[ye e] at D;cases D
 unfold iX;rw[ye (show dZ S.length (k:Int)=true from yI ⟨oaa,oaa⟩),yk];unfold wV;rw[ye (yI ⟨oaa,oaa⟩),ye F,ye hn]
theorem Dx(D:k<S.length)(E:(nd S k).u=true)(hn:(nd S k).n=u)(h:WF S):dH S [((k:Int),u)]=0:=by
 unfold dH;rw[ye ((mU S).2 h),Dr];exact Dw D E hn h
structure Tst where
 t:Int
 m:Int
 near:Bool
def rP(T M:Int)(x:Nd):Bool:=(decide (T = -1000001) || decide (T=x.t)) && (decide (M = -1000001) || decide (M=x.m))
def jJ(near:Bool):(Nat->Bool) × List Int->Int->((Nat->Bool) × List Int) × Bool:=fun st x =>
 if st.1 x.toNat then (st,false) else ((fun j=>if j=x.toNat then true else st.1 j,st.2++[x]),!near)
theorem JB{st:(Nat->Bool) × List Int}(h:st.1 y=true):jJ near st (y:Int)=(st,false):=by
 unfold jJ;rw[yk,ye h]
theorem JC{st:(Nat->Bool) × List Int}(h:st.1 y=false):jJ near st (y:Int)=((fun j=>if j=y then true else st.1 j,st.2++[(y:Int)]),!near):=by
 unfold jJ;rw[yk,yd (by rw[h];exact Bool.false_ne_true)]
def oO(S:List Nd)(near:Bool)(st:(Nat->Bool) × List Int)(place:Int):(Nat->Bool) × List Int :=
 if dZ S.length place then eB S Nd.p (jJ near) S.length (nd S place.toNat).p st else st
def nQ(S:List Nd)(near:Bool)(places:List Int):(Nat->Bool) × List Int:=places.foldl (oO S near) (fun _=>false,[])
def iT(S:List Nd)(near:Bool)(places:List Int):List Int:=(nQ S near places).2
theorem Ed(S:List Nd)(near:Bool)(places:List Int)(k:Nat)(h:k<places.length):nQ S near (places.take (k+1))=oO S near (nQ S near (places.take k)) (places.getD k 0):=by
 unfold nQ;rw[List.take_add_one,List.foldl_append,List.getElem?_eq_getElem h,aJ places 0 h];rfl
def jK(S:List Nd)(te:Tst)(ps:List Int):List Int:=flt (fun x=>!rP te.t te.m (nd S x.toNat)) ps
def kY(S:List Nd):List Tst->List Int->List Int
 | [],ps=>ps
 | [te],ps=>jK S te ps
 | te :: D :: r,ps=>kY S (D :: r) (iT S te.near (jK S te ps))
def gY(S:List Nd)(place:Int)(q:List Tst):Bool:=decide (0<(kY S q.reverse [place]).length)
def PUp(S:List Nd):Nat->Nat->Nat->Prop
 | 0,x,p=>x=p
 | j+1,x,p=>∃ y:Nat,y<S.length/\(nd S x).p=y/\PUp S j y p
theorem PUp.up(h:WF S):∀ {j x y:Nat},x<S.length->PUp S j x y->Up S j x y
 | 0,_,_,_,F=>F
 | j+1,x,y,I,⟨z,h1,D,E⟩=>by
  refine⟨z,h1,?_,PUp.up h h1 E⟩;unfold bA;rw[ye (h.host_of_parent I oaa).1];exact D
structure Con (S:List Nd) (st:(Nat->Bool) × List Int):Prop where
 mem:∀ x ∈ st.2,∃ k:Nat,x=k/\k<S.length/\st.1 k=true
 all:∀ k,st.1 k=true->k<S.length/\(k:Int) ∈ st.2
theorem Con.iff{st:(Nat->Bool) × List Int}(h:Con S st)(k:Nat):(k:Int) ∈ st.2↔st.1 k=true:=by
 constructor
 ·intro D;obtain⟨k', e,_,hs⟩:=h.mem _ D;have:k' = k:=oaa
  rw[<- this];exact hs
 ·intro hs;exact(h.all k hs).2
theorem Con.add{st:(Nat->Bool) × List Int}(h:Con S st)(I:k<S.length):Con S (fun j=>if j=k then true else st.1 j,st.2++[(k:Int)]):=by
 refine⟨fun x D=>?_,fun j F=>?_⟩
 ·rcases List.mem_append.1 D with D|D
  ·obtain⟨i,e,h1,E⟩:=h.mem x D;refine⟨i,e,h1,?_⟩;dsimp only;split
   ·rfl
   ·exact E
  ·exact⟨k,by simpa using D,I,ye rfl⟩
 ·dsimp only at F
  split at F
  ·rename_i e;subst e;exact⟨I,oac⟩
  ·obtain⟨h1,E⟩:=h.all j F;exact⟨h1,List.mem_append.2 (Or.inl E)⟩
def ClU(S:List Nd)(st:(Nat->Bool) × List Int)(y:Int):Prop:=∀ a,st.1 a=true->∀ b:Nat,(nd S a).p=b->b<S.length->st.1 b=true\/(b:Int)=y
theorem ClU.up{st:(Nat->Bool) × List Int}(h:∀ a,st.1 a=true->∀ b:Nat,(nd S a).p=b->b<S.length->st.1 b=true):∀ {j x z:Nat},st.1 x=true->PUp S j x z->st.1 z=true
 | 0,_,_,D,I=>by cases I;exact D
 | _+1,_,_,D,⟨y,h1,E,F⟩=>ClU.up h (h _ D y E h1) F
theorem RO{S:List Nd}:∀ (f:Nat) (y:Int) (st:(Nat->Bool) × List Int),Con S st->ClU S st y->(∀ D:Nat,y=D->D<S.length->∀ j z,PUp S j D z->j<f) ->
  Con S (eB S Nd.p (jJ false) f y st)/\(∀ a,(eB S Nd.p (jJ false) f y st).1 a=true->∀ b:Nat,(nd S a).p=b->b<S.length->(eB S Nd.p (jJ false) f y st).1 b=true) /\
  ∀ z,(eB S Nd.p (jJ false) f y st).1 z=true↔st.1 z=true\/∃ (D j:Nat),y=D/\D<S.length/\PUp S j D z
 | 0,y,st,hc,F,hf=>by
  have hn:∀ D:Nat,y=D->¬ D<S.length:=fun D e U=>by have:=hf D e U 0 D rfl;omega
  refine⟨hc,fun a ha b hb E=>?_,fun z=>⟨Or.inl,fun h=>?_⟩⟩
  ·rcases F a ha b hb E with h|h
   ·exact h
   ·exact absurd E (hn b h.symm)
  ·rcases h with h |⟨D,j,e,U,_⟩
   ·exact h
   ·exact absurd U (hn D e)
 | f+1,y,st,hc,F,hf=>by
  simp only[eB];by_cases Z:dZ S.length y=true
  ·have hq:0<=y/\y<=(S.length:Int)-1:=of_decide_eq_true Z;obtain⟨D,rfl⟩:∃ k:Nat,y=(k:Int):=⟨y.toNat,oaa⟩;have I:D<S.length:=oaa;rw[ye Z]
   cases hs:st.1 D with
   | true =>
    rw[JB hs];simp only[Bool.false_eq_true,if_false]
    have J:∀ a,st.1 a=true->∀ b:Nat,(nd S a).p=b->b<S.length->st.1 b=true:=fun a ha b hb E=>by
     rcases F a ha b hb E with h|h
     ·exact h
     ·have:b=D:=oaa;rw[this];exact hs
    refine⟨hc,J,fun z=>⟨Or.inl,fun h=>?_⟩⟩;rcases h with h |⟨T,j,e,_,M⟩
    ·exact h
    ·have:T=D:=oaa;subst this;exact ClU.up J hs M
   | false =>
    rw[JC hs];simp only[Bool.not_false,if_true,yk]
    obtain⟨g1,g2,g3⟩:=RO f (nd S D).p (fun j=>if j=D then true else st.1 j,st.2++[(D:Int)]) (hc.add I) (fun a ha b hb E=>by
     dsimp only at ha |-;by_cases e:a=D
     ·subst e;exact Or.inr hb.symm
     ·rw[yd e] at ha;rcases F a ha b hb E with h|h
      ·left;split
       ·rfl
       ·exact h
      ·left;rw[ye oaa]) (fun T e O j z M=>by
     have:=hf D rfl I (j+1) z ⟨T,O,e,M⟩
     omega)
    refine⟨g1,g2,fun z=>?_⟩;rw[g3 z];dsimp only;constructor
    ·rintro(h |⟨T,j,e,O,M⟩)
     ·by_cases ez:z=D
      ·exact Or.inr ⟨D,0,rfl,I,ez.symm⟩
      ·rw[yd ez] at h;exact Or.inl h
     ·exact Or.inr ⟨D,j+1,rfl,I,⟨T,O,e,M⟩⟩
    ·rintro(h |⟨T,j,e,_,M⟩)
     ·left;split
      ·rfl
      ·exact h
     ·have:T=D:=oaa;subst this
      cases j with
      | zero=>left;rw[ye M.symm]
      | succ j =>
       obtain⟨y2,h1,h2,h3⟩:=M;exact Or.inr ⟨y2,j,h2,h1,h3⟩
  ·rw[yd Z];have hn:∀ D:Nat,y=D->¬ D<S.length:=fun D e U=>Z (yI ⟨oaa,oaa⟩);refine⟨hc,fun a ha b hb E=>?_,fun z=>⟨Or.inl,fun h=>?_⟩⟩
   ·rcases F a ha b hb E with h|h
    ·exact h
    ·exact absurd E (hn b h.symm)
   ·rcases h with h |⟨D,j,e,U,_⟩
    ·exact h
    ·exact absurd U (hn D e)
theorem Ee{f:Nat}(J:0<f)(y:Int)(st:(Nat->Bool) × List Int)(hc:Con S st) :
  Con S (eB S Nd.p (jJ true) f y st)/\∀ z,(eB S Nd.p (jJ true) f y st).1 z=true↔st.1 z=true\/(y=z/\z<S.length):=by
 obtain⟨f,rfl⟩:∃ g,f=g+1:=⟨f-1,oaa⟩;simp only[eB];by_cases D:dZ S.length y=true
 ·have M:0<=y/\y<=(S.length:Int)-1:=of_decide_eq_true D;obtain⟨E,rfl⟩:∃ k:Nat,y=(k:Int):=⟨y.toNat,oaa⟩;have F:E<S.length:=oaa
  rw[ye D]
  cases hs:st.1 E with
  | true =>
   rw[JB hs];simp only[Bool.false_eq_true,if_false];refine⟨hc,fun z=>⟨Or.inl,fun h=>?_⟩⟩;rcases h with h |⟨e,_⟩
   ·exact h
   ·have:z=E:=oaa;rw[this];exact hs
  | false =>
   rw[JC hs];simp only[Bool.not_true,Bool.false_eq_true,if_false];refine⟨hc.add F,fun z=>?_⟩;constructor
   ·intro h;by_cases I:z=E
    ·exact Or.inr ⟨by rw[I],oaa⟩
    ·rw[yd I] at h;exact Or.inl h
   ·rintro(h |⟨e,_⟩)
    ·split
     ·rfl
     ·exact h
    ·rw[ye oaa]
 ·rw[yd D];refine⟨hc,fun z=>⟨Or.inl,fun h=>?_⟩⟩;rcases h with h |⟨e,O⟩
  ·exact h
  ·exact absurd (yI ⟨oaa,oaa⟩) D
def Abv(S:List Nd)(near:Bool)(k x:Nat):Prop:=if near then (nd S k).p=x/\x<S.length else ∃ (D j:Nat),(nd S k).p=D/\D<S.length/\PUp S j D x
theorem JD{S:List Nd}(h:WF S)(near:Bool):∀ (ps:List Int) (st:(Nat->Bool) × List Int),(∀ x ∈ ps,∃ k:Nat,x=k/\k<S.length)->Con S st->(near=false->∀ a,st.1 a=true->∀ b:Nat,(nd S a).p=b->b<S.length->st.1 b=true) ->
  Con S (ps.foldl (oO S near) st)/\∀ z,(ps.foldl (oO S near) st).1 z=true↔st.1 z=true\/∃ k:Nat,(k:Int) ∈ ps/\Abv S near k z
 | [],st,_,hc,_=>⟨hc,fun z=>⟨Or.inl,fun h=>by
   rcases h with h |⟨k,hk,_⟩
   ·exact h
   ·cases hk⟩⟩
 | x :: ps,st,F,hc,O=>by
  obtain⟨k,rfl,hk⟩:=F x oac;have T:dZ S.length (k:Int)=true:=yI ⟨oaa,oaa⟩;simp only[List.foldl_cons]
  have e:oO S near st (k:Int)=eB S Nd.p (jJ near) S.length (nd S k).p st:=by
   unfold oO;rw[ye T,yk]
  rw[e]
  cases near with
  | true =>
   obtain⟨g1,g2⟩:=Ee (f:=S.length) oaa (nd S k).p st hc;obtain⟨i1,i2⟩:=JD h true ps _ (fun x U=>F x (by simp[U])) g1 (fun e=>by cases e);refine⟨i1,fun z=>?_⟩;rw[i2 z,g2 z];constructor
   ·rintro((h|h) |⟨k', D,h⟩)
    ·exact Or.inl h
    ·exact Or.inr ⟨k,oac,h⟩
    ·exact Or.inr ⟨k', by simp[D],h⟩
   ·rintro(h |⟨k', D,h⟩)
    ·exact Or.inl (Or.inl h)
    ·rcases List.mem_cons.1 D with e|D
     ·have:k' = k:=oaa;subst this;exact Or.inl (Or.inr h)
     ·exact Or.inr ⟨k', D,h⟩
  | false =>
   obtain⟨g1,g2,g3⟩:=RO S.length (nd S k).p st hc (fun a ha b hb M=>Or.inl (O rfl a ha b hb M)) (fun E e J j z I=>by
    have:=h.up_short J (I.up h J)
    omega)
   obtain⟨i1,i2⟩:=JD h false ps _ (fun x U=>F x (by simp[U])) g1 (fun _=>g2);refine⟨i1,fun z=>?_⟩;rw[i2 z,g3 z];constructor
   ·rintro((h |⟨E,j,e,Z,I⟩) |⟨k', D,h⟩)
    ·exact Or.inl h
    ·exact Or.inr ⟨k,oac,(show ∃ (E j:Nat),_ from ⟨E,j,e,Z,I⟩)⟩
    ·exact Or.inr ⟨k', by simp[D],h⟩
   ·rintro(h |⟨k', D,h⟩)
    ·exact Or.inl (Or.inl h)
    ·rcases List.mem_cons.1 D with e|D
     ·have:k' = k:=oaa;subst this;obtain⟨E,j,e,Z,I⟩:∃ (E j:Nat),(nd S k').p=E/\E<S.length/\PUp S j E z:=h;exact Or.inl (Or.inr ⟨E,j,e,Z,I⟩)
     ·exact Or.inr ⟨k', D,h⟩
def jL(S:List Nd)(ps:List Int):Prop:=∀ x ∈ ps,∃ k:Nat,x=k/\k<S.length
theorem Ef(h:WF S)(near:Bool)(E:jL S ps):jL S (iT S near ps)/\∀ z:Nat,(z:Int) ∈ iT S near ps↔∃ k:Nat,(k:Int) ∈ ps/\Abv S near k z:=by
 obtain⟨h1,I⟩:=JD h near ps (fun _=>false,[]) E ⟨fun x F=>(by cases F),fun k D=>(by cases D)⟩ (fun _ a ha=>by cases ha);refine⟨fun x F=>?_,fun z=>?_⟩
 ·obtain⟨k,e,D,_⟩:=h1.mem x F;exact⟨k,e,D⟩
 ·rw[show iT S near ps=(ps.foldl (oO S near) (fun _=>false,[])).2 from rfl,h1.iff z,I z];constructor
  ·rintro(h|h)
   ·cases h
   ·exact h
  ·exact Or.inr
theorem Eg{te:Tst}:x ∈ jK S te ps↔x ∈ ps/\rP te.t te.m (nd S x.toNat)=true:=by
 unfold jK;rw[BD];simp
theorem jL.sift{te:Tst}(h:jL S ps):jL S (jK S te ps):=fun x D=>h x (Eg.1 D).1
theorem RQ(K:Nat)(F:Array Value)(p:Int->Bool)(a:OA)(c:Nat)(ks:List Int)(w:Wd)(O:ks.length<=9223372036854775807)(E:aG w a ks)
  (Z:∀ args w,(callFunc K args).run prog w=.ok (.enter K args) w) (J:∀ x ∈ ks,∀ w1,Bl w w1->yO K (#[.int .i64 x] ++ F) w1 fun e w2=>e=.returned (.bool (p x))/\Below w1.heap.size w1 w2) :
  yO 153 #[.slice a ks.length c,.func (.func K) #[] F] w fun e w' => ∃ r:Int,e=.returned (.int .i64 r)/\Below w.heap.size w w' /\
   ((r = -1/\∀ i,i<ks.length->p (ks.getD i 0)=false)\/(∃ k:Nat,k<ks.length/\r=k/\p (ks.getD k 0)=true/\∀ i,i<k->p (ks.getD i 0)=false)):=by
 generalize hn:ks.length=n at *
 go_enter func153,ntmps153
 go_wp2
 go_loopg [8] n (fun g s8 wr=>∃ k:Nat,k<=n/\n-k<=g/\s8=.int .i64 k/\Below w.heap.size w wr/\Hid (∀ i,i<k->p (ks.getD i 0)=false))
 case atStart=>exact⟨0,oaa,oaa,rfl,yv _ _,fun i hi=>oaa⟩
 case round =>
  obtain⟨k,hk,hg,rfl,hb,A⟩:=hrel;by_cases M:k<n
  ·obtain⟨b,o,rfl,hc⟩:=(E.below hb) k oaa;have D:=J (ks.getD k 0) (by rw[aJ ks 0 oaa];exact List.getElem_mem _) wr hb;have U:Hid (aG w (some ⟨b,o,none⟩) ks):=E;clear E J;generalize T:ks.getD k 0=y at hc D;have Y:Hid (ks.getD k 0=y):=T;clear T
   cases hq:p y with
   | true =>
    rw[hq] at D
    go_wp2_with (go_at_fn K;refine D.mono ?_;rintro e w' ⟨rfl,I⟩)
    go_ret;exact⟨k,rfl,hb.trans (I.mono hb.size),Or.inr ⟨k,M,rfl,by rw[Y.out];exact hq,A.out⟩⟩
   | false =>
    rw[hq] at D
    go_wp2_with (go_at_fn K;refine D.mono ?_;rintro e w' ⟨rfl,I⟩)
    go_roundg (n-(k+1))
    case measure=>omega
    case rel =>
     refine⟨k+1,oaa,oaa,by go_num,hb.trans (I.mono hb.size),(show Hid _ from fun i hi=>?_)⟩;by_cases e:i=k
     ·subst e;rw[Y.out];exact hq
     ·exact A.out i oaa
  ·have:k=n:=oaa;subst this;clear E J
   go_wp2
   go_ret;exact⟨-1,rfl,hb,Or.inl ⟨rfl,A.out⟩⟩
theorem El(K:Nat)(J:Array Value)(p:Int->Bool)(kb L cap:Nat)(ks:List Int)(G:Nat->Value)(w:Wd)(hL:ks.length=L)(hc:L<=cap)(d5:cap<=9223372036854775807)(hG:w.rowIs kb 3 cap G)(a7:∀ j,j<L->G j=.int .i64 (ks.getD j 0))
  (eg:∀ args w,(callFunc K args).run prog w=.ok (.enter K args) w) (hT:∀ x ∈ ks,∀ w1,Off (fun b=>b=kb) w w1->yO K (#[.int .i64 x] ++ J) w1 fun e w2=>e=.returned (.bool (p x))/\Below w1.heap.size w1 w2) :
  yO 197 #[.slice (some ⟨kb,0,none⟩) L cap,.func (.func K) #[] J] w (IQ w kb cap (flt p ks)):=by
 have di:=RQ K J p (some ⟨kb,0,none⟩) cap ks w oaa (qB hG oaa (by rw[hL];exact a7)) eg (fun x hx w1 hb=>hT x hx w1 (Off.of_below hb));rw[hL] at di;have HG:Hid (w.rowIs kb 3 cap G):=hG;have a6:Hid _:=a7;have HT:Hid _:=hT;have O:Hid _:=hL;have b3:=hG.lt;clear hG a7 hT hL
 go_enter func197,ntmps197
 go_wp2_with fail
 refine di.mono ?_;rintro e w1 ⟨r,rfl,M,hr⟩;clear di;rcases hr with ⟨rfl,a5⟩ |⟨k,hk,rfl,hp,hf⟩
 ·have b0:=AJ p ks (by rw[O.out];exact a5);have E:Hid _:=b0;clear a5 b0
  go_wp2
  go_ret;refine⟨by rw[E.out,O.out];rfl,Off.of_below M,G,HG.of_block (M.block kb b3),fun j hj=>?_⟩;rw[E.out] at hj |-;exact a6.out j (by rw[<- O.out];exact hj)
 ·have d4:((k:Int) == -1)=false:=beq_eq_false_iff_ne.2 oaa
  have F0:Hid (flt p (ks.take (k+1))=ks.take k):=by
   show _=_;rw[xB p ks k (by rw[O.out];exact hk),hp,ye rfl,List.append_nil];refine AJ p _ (fun i hi=>?_);rw[List.length_take] at hi;have b4:=O.out;have h1:=hf i oaa;rw[aJ ks 0 oaa] at h1;rw[aJ (ks.take k) 0 (by rw[List.length_take];omega),List.getElem_take];exact h1
  have a9:Hid (w1.rowIs kb 3 cap G):=HG.of_block (M.block kb b3)
  have FI:Hid (∀ t,t<k->G t=.int .i64 ((flt p (ks.take (k+1))).getD t 0)):=fun t T=>by
   have b4:=O.out;rw[F0.out,a6.out t oaa,aJ ks 0 oaa,aJ (ks.take k) 0 (by rw[List.length_take];omega),List.getElem_take]
  have FL:Hid ((flt p (ks.take (k+1))).length=k):=by
   have b4:=O.out;show _=_;rw[F0.out,List.length_take];omega
  have O1:Hid (Off (fun b=>b=kb) w w1):=Off.of_below M;clear hp hf M
  go_wp2
  go_loopg [5,6] L (fun g1 s5 s6 wr=>∃ (i j:Nat) (G2:Nat->Value),i<j/\j<=L/\L-j<=g1/\s5=.int .i64 i/\s6=.int .i64 j/\Hid (Off (fun b=>b=kb) w wr)/\Hid (wr.rowIs kb 3 cap G2)/\Hid ((flt p (ks.take j)).length=i)/\Hid (∀ t,t<i->G2 t=.int .i64 ((flt p (ks.take j)).getD t 0))/\Hid (∀ t,j<=t->t<L->G2 t=.int .i64 (ks.getD t 0)))
  case atStart=>exact⟨k,k+1,G,oaa,oaa,oaa,rfl,by go_num,O1,a9,FL,FI,(show Hid _ from fun t _ T=>a6.out t T)⟩
  case round =>
   clear a9 FI FL O1;obtain⟨i,j,G2,c8,c9,b9,rfl,rfl,O2,R2,L2,I2,J2⟩:=hrel;have U:kb<wr.heap.size:=R2.lt;have b1:=R2.frozen;by_cases a8:j<L
   ·have b6:(j:Int)<(L:Int):=oaa;have cj:=R2.cell (i:=j) oaa;rw[J2.out j (yr _) a8] at cj;have ci:=R2.cell (i:=i) oaa;have D:=HT.out (ks.getD j 0) (by rw[aJ ks 0 (by rw[O.out];exact a8)];exact List.getElem_mem _) wr O2.out;have Z:=xB p ks j (by rw[O.out];exact a8);generalize hy:ks.getD j 0=y at *;have HY:Hid _:=hy;clear hy
    cases hq:p y with
    | true =>
     rw[hq] at D Z;rw[ye rfl,List.append_nil] at Z;have I:Hid _:=Z;clear Z
     go_wp2_with (go_at_fn K;refine D.mono ?_;rintro e w2 ⟨rfl,F⟩)
     go_roundg (L-(j+1))
     case measure=>omega
     case rel=>exact⟨i,j+1,G2,oaa,oaa,oaa,rfl,by go_num,O2.trans (Off.of_below F),R2.of_block (F.block kb U),(show _=_ by rw[I.out];exact L2.out),(show Hid _ from fun t T=>by rw[I.out];exact I2.out t T),(show Hid _ from fun t h1 h2=>J2.out t oaa h2)⟩
    | false =>
     rw[hq] at D Z;rw[yd oac] at Z;have I:Hid _:=Z;clear Z
     go_wp2_with (go_at_fn K;refine D.mono ?_;rintro e w2 ⟨rfl,F⟩;have b7:=(F.cell (by exact U)).trans ci;have b5:=fun o=>(F.frozen (by exact U)).trans (b1 o))
     go_roundg (L-(j+1))
     case measure=>omega
     case rel =>
      refine⟨i+1,j+1,_,oaa,oaa,oaa,by go_num,by go_num,(O2.trans (Off.of_below F)).trans (uA (X:=fun b=>b=kb) _ rfl _),(R2.of_block (F.block kb U)).set i (.int .i64 y),(show _=_ by rw[I.out,List.length_append,L2.out];rfl),(show Hid _ from fun t T=>?_),(show Hid _ from fun t h1 h2=>?_)⟩
      ·rw[I.out];by_cases e:t=i
       ·subst e;rw[ye rfl];simp[List.getD,L2.out]
       ·rw[yd e,I2.out t oaa];simp[List.getD,List.getElem?_append,L2.out,show t<i by omega]
      ·rw[yd oaa];exact J2.out t oaa h2
   ·have b2:j=L:=oaa;subst b2;have c7:(i:Int)<=(cap:Int):=oaa;have c6:(i:Int)<=(j:Int):=oaa
    have EF:Hid (flt p (ks.take j)=flt p ks):=by
     show _=_;rw[<- O.out,List.take_length]
    have b8:∀ ty,(Builtin.clear_ #[48] ty #[.slice (some ⟨kb,i,none⟩) (j-i) (cap-i)]).run prog wr=.ok (.tuple #[]) (wr.setCells kb i (List.replicate (j-i) (.int .i64 0))):=fun ty=>Lib.run_clear_slice wr 48 3 ty (.int .i64 0) underlying48 zeroValue3 rfl rfl kb i (j-i) (cap-i) oaa (fun t T=>by rw[R2.cell oaa];rfl) (fun t T=>b1 _)
    go_wp2
    go_ret;refine⟨?_,O2.trans (qA (X:=fun b=>b=kb) rfl _ _ _),_,pY _ _ _ _ R2.out,fun t T=>?_⟩
    ·rw[<- EF.out,L2.out];rfl
    ·rw[<- EF.out,L2.out] at T;rw[yd oaa,I2.out t T,EF.out]
theorem Eo(K:Nat)(D:Array Value)(w:Wd)(M:∀ args w,(callFunc K args).run prog w=.ok (.enter K args) w) :
  yO 197 #[.slice none 0 0,.func (.func K) #[] D] w fun e w' => e=.returned (.slice none 0 0)/\Below w.heap.size w w' := by
 have I:=RQ K D (fun _=>true) none 0 [] w oac (fun i hi=>absurd hi (yB _)) M (fun x T=>by cases T)
 go_enter func197,ntmps197
 go_wp2_with fail
 refine I.mono ?_;rintro e w1 ⟨r,rfl,E,J⟩
 have F:r = -1:=by
  rcases J with ⟨h,_⟩ |⟨k,O,_⟩
  ·exact h
  ·exact absurd O (yB _)
 subst F;clear J I
 go_wp2
 go_ret;exact⟨rfl,E⟩
