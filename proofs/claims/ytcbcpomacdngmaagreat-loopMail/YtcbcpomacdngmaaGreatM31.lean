/-
  x
-/
import Derived.Test.YtcbcpomacdngmaaGreatM30
namespace Go.Proofs.YtcbcpomacdngmaaGreat
set_option maxRecDepth 100000
set_option maxHeartbeats 4000000
set_option linter.unusedVariables false
open Go.RowKit Go.ChangeShapes Go.WideShapes
theorem zfW(n0 n1 n2 n3 n4:Nat)(E:Int)(k a b:Int)(a0 a1 a2 a3 a4:Option Addr)(c0 c1 c2 c3 c4:Nat)(w:World)(hE:E≠0\/E=0/\n0=0)(DT:Hid (∀ V:World,yL 9 #[] V fun e w' => e=.returned (.bool true)/\Below V.heap.size V w'))
  (DK:Hid (∀ V,Below w.heap.size w V->yL 10 #[.agg #[.slice a0 n0 c0,.slice a1 n1 c1,.slice a2 n2 c2,.slice a3 n3 c3,.slice a4 n4 c4]] V fun e w' => e=.returned (.int .i64 E)/\Below V.heap.size V w')) :
  yL 3 #[.agg #[.slice a0 n0 c0,.slice a1 n1 c1,.slice a2 n2 c2,.slice a3 n3 c3,.slice a4 n4 c4],.int .i64 k,.int .i64 a,.int .i64 b] w fun e w' => e=.returned (.bool true)/\Below w.heap.size w w' := by
 rcases hE with hE |⟨rfl,rfl⟩
 ·
  go_enter Tryz.func3,Tryz.ntmps3
  go_wp2_with fail
  refine ye (DT.out _) ?_;rintro e w1 ⟨rfl,D⟩;have I:Hid (w1.heap[w.heap.size]?=some (.cells #[.slice a0 n0 c0,.slice a1 n1 c1,.slice a2 n2 c2,.slice a3 n3 c3,.slice a4 n4 c4] 28 (0,0))):=zav (yK w _) D;have F:Hid (Below w.heap.size w w1):=(zaa w _).trans (D.mono (by simp));clear D;obtain⟨J,M,O,T,U,Z,pl⟩:=zaq I.out
  go_wp2_with fail
  refine ye (DK.out _ F.out) ?_;rintro e w2 ⟨rfl,D⟩;have B2:Hid (Below w.heap.size w w2):=F.out.trans (D.mono F.out.size);have K2:Hid _:=zav I.out D;clear J M O T U Z pl D I;obtain⟨J,M,O,T,U,Z,pl⟩:=zaq K2.out
  go_wp2_with fail
  refine ye (DT.out _) ?_;rintro e w3 ⟨rfl,D⟩;have B3:Hid (Below w.heap.size w w3):=B2.out.trans (D.mono B2.out.size);clear D J M O T U Z pl
  go_wp2
  go_ret;exact⟨rfl,B3.out⟩
 ·
  go_enter Tryz.func3,Tryz.ntmps3
  go_wp2_with fail
  refine ye (DT.out _) ?_;rintro e w1 ⟨rfl,D⟩;have I:Hid (w1.heap[w.heap.size]?=some (.cells #[.slice a0 0 c0,.slice a1 n1 c1,.slice a2 n2 c2,.slice a3 n3 c3,.slice a4 n4 c4] 28 (0,0))):=zav (yK w _) D;have F:Hid (Below w.heap.size w w1):=(zaa w _).trans (D.mono (by simp));clear D;obtain⟨J,M,O,T,U,Z,pl⟩:=zaq I.out
  go_wp2_with fail
  refine ye (DK.out _ F.out) ?_;rintro e w2 ⟨rfl,D⟩;have B2:Hid (Below w.heap.size w w2):=F.out.trans (D.mono F.out.size);have K2:Hid _:=zav I.out D;clear J M O T U Z pl D I;obtain⟨J,M,O,T,U,Z,pl⟩:=zaq K2.out
  go_wp2_with fail
  refine ye (DT.out _) ?_;rintro e w3 ⟨rfl,D⟩;have B3:Hid (Below w.heap.size w w3):=B2.out.trans (D.mono B2.out.size);clear D J M O T U Z pl
  go_wp2
  go_ret;exact⟨rfl,B3.out⟩
theorem zwn(E:Int)(W:Wl)(n n4:Nat)(a0 a1 a2 a3 a4:Option Addr)(c0 c1 c2 c3 c4:Nat)(w:World)(DT:Hid (∀ V:World,yL 9 #[] V fun e w' => e=.returned (.bool true)/\Below V.heap.size V w'))
  (DK:Hid (∀ V,Below w.heap.size w V->yL 10 #[.agg #[.slice a0 n c0,.slice a1 n c1,.slice a2 n c2,.slice a3 n c3,.slice a4 n4 c4]] V fun e w' => e=.returned (.int .i64 0)/\Below V.heap.size V w')) (k a b:Int) (T aa bb:Nat) (a8:Hid (∀ w:World,yL 11 #[.int .i64 k,.int .i64 n] w fun e w' => e=.returned (.int .i64 (T:Int))/\w' = w)) (a9:Hid (∀ w:World,yL 11 #[.int .i64 a,.int .i64 n] w fun e w' => e=.returned (.int .i64 (aa:Int))/\w' = w)) (b0:Hid (∀ w:World,yL 11 #[.int .i64 b,.int .i64 9] w fun e w' => e=.returned (.int .i64 (bb:Int))/\w' = w)) (K:Nat->Value)
  (DC:Hid (∀ V,Below w.heap.size w V->yL 12 #[.slice a2 n c2] V fun e w' => ∃ F D,e=.returned (.slice (some ⟨F,0,none⟩) n D)/\n<=D/\D<=9223372036854775807/\Below V.heap.size V w' /\ V.heap.size<=F/\w'.ownsRow V.heap.size 34 1 (.slice (some ⟨F,0,none⟩) n D) n ((List.range n).map K)))
  (e5:0<n) (d7:T<n) (e2:aa<n) (e7:n<=8) (hW:Hid (zgb w ⟨a0,a1,a2,a3,a4,c0,c1,c2,c3,c4⟩ W)) (hC:Hid (WlC ⟨a0,a1,a2,a3,a4,c0,c1,c2,c3,c4⟩ W)) (HK:Hid ((∀ i,i<W.ps.length->∃ pa pc,K i=.slice pa (pg W.ps i).length pc/\zbE w pa (pg W.ps i))/\W.ps.length=n))
  (DS:Hid (∀ (F D:Nat) V,WlC ⟨a0,a1,some ⟨F,0,none⟩,a3,a4,c0,c1,D,c3,c4⟩ (setP W T [⟨10,aa,0,0,bb⟩])->zgb V ⟨a0,a1,some ⟨F,0,none⟩,a3,a4,c0,c1,D,c3,c4⟩ (setP W T [⟨10,aa,0,0,bb⟩])->yL 13 #[.agg #[.slice a0 n c0,.slice a1 n c1,.slice (some ⟨F,0,none⟩) n D,.slice a3 n c3,.slice a4 n4 c4],.agg #[.int .i64 T,.bool true]] V fun e w' => ∃ (f0 f1 f2 f3 f4:Option Addr) (g0 g1 g2 g3 g4:Nat),e=.returned (.tuple #[.agg #[.slice f0 0 g0,.slice f1 0 g1,.slice f2 0 g2,.slice f3 0 g3,.slice f4 0 g4],.int .i64 E])/\Below V.heap.size V w'))
  (hE:¬ E=0) :
  yL 3 #[.agg #[.slice a0 n c0,.slice a1 n c1,.slice a2 n c2,.slice a3 n c3,.slice a4 n4 c4],.int .i64 k,.int .i64 a,.int .i64 b] w fun e w' => e=.returned (.bool true)/\Below w.heap.size w w' := by
 have e6:¬ ((n:Int)=0):=by omega
 have e4:(T:Int)<n:=by omega
 have e1:(aa:Int)<n:=by omega
 have b3:Hid (∀ (x m:Int) (y:Nat),(x=k/\m=n/\y=T\/x=a/\m=n/\y=aa\/x=b/\m=9/\y=bb)->∀ w:World,yL 11 #[.int .i64 x,.int .i64 m] w fun e w' => e=.returned (.int .i64 (y:Int))/\w' = w):=fun x m y h V=>by
  rcases h with ⟨rfl,rfl,rfl⟩ |⟨rfl,rfl,rfl⟩ |⟨rfl,rfl,rfl⟩
  ·exact a8.out V
  ·exact a9.out V
  ·exact b0.out V
 clear a8 a9 b0
 go_enter Tryz.func3,Tryz.ntmps3
 go_wp2_with fail
 refine ye (DT.out _) ?_;rintro e w1 ⟨rfl,U⟩;have K1:Hid (w1.heap[w.heap.size]?=some (.cells #[.slice a0 n c0,.slice a1 n c1,.slice a2 n c2,.slice a3 n c3,.slice a4 n4 c4] 28 (0,0))):=zav (yK w _) U;have B1:Hid (Below w.heap.size w w1):=(zaa w _).trans (U.mono (by simp));clear U;obtain⟨p0,p1,p2,p3,p4,pf,pl⟩:=zaq K1.out
 go_wp2_with fail
 refine ye (DK.out _ B1.out) ?_;rintro e w2 ⟨rfl,U⟩;have B2:Hid (Below w.heap.size w w2):=B1.out.trans (U.mono B1.out.size);have K2:Hid _:=zav K1.out U;clear p0 p1 p2 p3 p4 pf pl U K1 B1 DT DK;obtain⟨p0,p1,p2,p3,p4,pf,pl⟩:=zaq K2.out
 go_upto_region 3 with fail
 go_big_quiet (first|(go_at_call 11;exact Calls.quiet_of_same (b3.out _ _ _ (by first|exact Or.inl ⟨rfl,rfl,rfl⟩|exact Or.inr (Or.inl ⟨rfl,rfl,rfl⟩)|exact Or.inr (Or.inr ⟨rfl,rfl,rfl⟩)) _)))
 obtain⟨w3,a6⟩:∃ w3,w2.drewN nq=w3:=⟨_,rfl⟩;rw[a6];have B3:Hid (Below w.heap.size w w3):=by rw[<- a6];exact Below.drewNs B2.out nq
 have K3:Hid (w3.heap[w.heap.size]?=some (.cells #[.slice a0 n c0,.slice a1 n c1,.slice a2 n c2,.slice a3 n c3,.slice a4 n4 c4] 28 (0,0))):=by rw[<- a6];exact K2.out
 clear a6 p0 p1 p2 p3 p4 pf pl K2 B2 b3;obtain⟨p0,p1,p2,p3,p4,pf,pl⟩:=zaq K3.out
 go_wp2_with fail
 refine ye (DC.out _ (B3.out.alloc B3.out.size _)) ?_;rintro e J ⟨F,D,rfl,d4,d5,U,b8,a5⟩;have Z:Below (w3.heap.size+1) (w3.alloc (.cells #[.slice a0 n c0,.slice a1 n c1,.slice a2 n c2,.slice a3 n c3,.slice a4 n4 c4] 28)) J:=by simpa using U
 have e3:w3.heap.size+1<=F:=by simpa using b8
 have d8:w3.heap.size<J.heap.size:=by have:=Z.size;simp at this;omega
 have d6:F<J.heap.size:=by
  rcases a5.2 with ⟨e,_⟩ |⟨g', b6,M,e,_,I,_⟩
  ·cases e
  ·cases e;exact zau I
 have b4:Hid _:=Z;have OW:Hid _:=a5;have K9:Hid (J.heap[w3.heap.size]?=some (.cells #[.slice a0 n c0,.slice a1 n c1,.slice a2 n c2,.slice a3 n c3,.slice a4 n4 c4] 28 (0,0))):=(Z.block _ (by omega)).trans (yK w3 _);have K4:Hid (J.heap[w.heap.size]?=some (.cells #[.slice a0 n c0,.slice a1 n c1,.slice a2 n c2,.slice a3 n c3,.slice a4 n4 c4] 28 (0,0))):=zav (zav K3.out (zaa _ _)) (Z.mono (by simp));clear U b8 a5 Z p0 p1 p2 p3 p4 pf DC;obtain⟨p0,p1,p2,p3,p4,pf,d9⟩:=zaq K4.out;obtain⟨q0,q1,q2,q3,q4,qf,ql⟩:=zaq K9.out
 have c8:∃ M,J.heap[F]?=some (.cells M 34 (0,0))/\M.size=D:=by
  rcases OW.out.2 with ⟨e,_⟩ |⟨g', b6,M,e,_,I,_,_,b9,_⟩
  ·cases e
  ·cases e;exact⟨M,I,by omega⟩
 obtain⟨M,I,b7⟩:=c8;have b5:Hid _:=I
 have a7:∃ v,J.cell? ⟨F,T,none⟩=some v:=by
  have:T<M.size:=by omega
  exact⟨M[T],by simp[World.cell?,I,this]⟩
 obtain⟨gv,gc⟩:=a7;have gf:∀ o,J.frozen? ⟨F,o,none⟩=false:=fun o=>by simp[World.frozen?,I]
 have c9:Hid (M.size=D):=b7;have d1:¬ F=w3.heap.size:=by omega
 have d2:¬ w3.heap.size=F:=by omega
 have d3:¬ w.heap.size=w3.heap.size:=by omega
 clear I b7
 go_upto_region 7 with fail
 obtain⟨w5,O⟩:∃ w5,(((J.setCell ⟨w3.heap.size,2,none⟩ (.slice (some ⟨F,0,none⟩) n D)).setCell ⟨F,T,none⟩ (.slice (some ⟨J.heap.size,0,none⟩) 1 1)).alloc (.cells #[.int .i64 10,.int .i64 aa,.int .i64 0,.int .i64 0,.int .i64 bb] 36))=w5:=⟨_,rfl⟩;rw[O];have e0:J.heap.size<w5.heap.size:=by rw[<- O];simp
 have B4:Hid (Below w.heap.size w J):=(B3.out.alloc B3.out.size _).trans (b4.out.mono (by have:=B3.out.size;omega));have c6:w.heap.size<=w3.heap.size:=B3.out.size
 have B5:Hid (Below w.heap.size w w5):=by
  rw[<- O];exact((B4.out.setCell c6 _).setCell (by show w.heap.size<=F;omega) _).alloc (by have:=B4.out.size;simp;omega) _
 have c7:∀ c,c<J.heap.size->c≠w3.heap.size->c≠F->w5.heap[c]?=J.heap[c]?:=fun c h1 h2 h3=>by
  rw[<- O,Below.heap_alloc _ _ _ (by simpa using h1),ys _ _ _ _ h3,ys _ _ _ _ h2]
 have K5:Hid (w5.heap[w.heap.size]?=some (.cells #[.slice a0 n c0,.slice a1 n c1,.slice a2 n c2,.slice a3 n c3,.slice a4 n4 c4] 28 (0,0))):=(c7 _ (by omega) (by omega) (by omega)).trans K4.out
 have V5:Hid (w5.heap[w3.heap.size]?=some (.cells #[.slice a0 n c0,.slice a1 n c1,.slice (some ⟨F,0,none⟩) n D,.slice a3 n c3,.slice a4 n4 c4] 28 (0,0))):=by
  rw[<- O];exact(Below.heap_alloc _ _ _ (by simpa using d8)).trans ((ys _ _ _ _ (by omega)).trans (zaG (i:=2) K9.out))
 have P5:Hid (zgb w5 ⟨a0,a1,some ⟨F,0,none⟩,a3,a4,c0,c1,D,c3,c4⟩ (setP W T [⟨10,aa,0,0,bb⟩])):=by
  obtain⟨hK,hlen⟩:=HK.out;refine⟨hW.out.fs.below B5.out,hW.out.rs.below B5.out,zlT (w:=w) (w1:=J) (q:=J.heap.size) (qc:=1) hlen hK OW.out d7 B5.out (fun i hi=>?_) (fun M t h=>?_),hW.out.qs.below B5.out,hW.out.pt.below B5.out⟩
  ·obtain rfl:i=0:=by have:i<1:=hi;omega
   rw[<- O];have b9:(((J.setCell ⟨w3.heap.size,2,none⟩ (.slice (some ⟨F,0,none⟩) n D)).setCell ⟨F,T,none⟩ (.slice (some ⟨J.heap.size,0,none⟩) 1 1))).heap.size=J.heap.size:=(by simp);have hx:=fun j v (hv:(#[.int .i64 10,.int .i64 aa,.int .i64 0,.int .i64 0,.int .i64 bb]:Array Value)[j]?=some v)=>zad (((J.setCell ⟨w3.heap.size,2,none⟩ (.slice (some ⟨F,0,none⟩) n D)).setCell ⟨F,T,none⟩ (.slice (some ⟨J.heap.size,0,none⟩) 1 1))) _ 36 j hv;rw[b9] at hx;exact⟨J.heap.size,0,rfl,hx 0 _ rfl,hx 1 _ rfl,hx 2 _ rfl,hx 3 _ rfl,hx 4 _ rfl⟩
  ·rw[<- O];exact(Below.heap_alloc _ _ _ (by simpa using d6)).trans (zaG (i:=T) ((ys _ _ _ _ d1).trans h))
 have C5:Hid (WlC ⟨a0,a1,some ⟨F,0,none⟩,a3,a4,c0,c1,D,c3,c4⟩ (setP W T [⟨10,aa,0,0,bb⟩])):=by
  obtain⟨hK,hlen⟩:=HK.out;exact⟨hC.out.s0,hC.out.s1,⟨(fun e=>by cases e),by show (W.ps.set T _).length<=_;rw[List.length_set,hlen];exact d4,d5⟩,hC.out.s3,hC.out.s4⟩
 clear O c7 B4 K4 K9 OW b5 c9 gc gf p0 p1 p2 p3 p4 pf d9 q0 q1 q2 q3 q4 qf ql b4;obtain⟨q0,q1,q2,q3,q4,qf,ql⟩:=zaq V5.out;have b1:(E != 0)=true:=by simpa using hE
 have b2:(E == 0)=false:=by simpa using hE
 go_wp2_with fail
 refine ye (DS.out F D _ C5.out P5.out) ?_;rintro e w6 ⟨f0,f1,f2,f3,f4,g0,g1,g2,g3,g4,rfl,U⟩;have B6:Hid (Below w.heap.size w w6):=B5.out.trans (U.mono B5.out.size);clear U
 go_wp2_with fail
 go_big_quiet (fail)
 go_wp2
 go_ret;exact⟨rfl,zcZ (B6.out.alloc B6.out.size _) _⟩
theorem zts(Z:Wl)(m4 TL:Nat)(TT:Int)(W:Wl)(n n4:Nat)(a0 a1 a2 a3 a4:Option Addr)(c0 c1 c2 c3 c4:Nat)(w:World)(DT:Hid (∀ V:World,yL 9 #[] V fun e w' => e=.returned (.bool true)/\Below V.heap.size V w'))
  (DK:Hid (∀ V,Below w.heap.size w V->yL 10 #[.agg #[.slice a0 n c0,.slice a1 n c1,.slice a2 n c2,.slice a3 n c3,.slice a4 n4 c4]] V fun e w' => e=.returned (.int .i64 0)/\Below V.heap.size V w')) (k a b:Int) (M aa bb:Nat) (b0:Hid (∀ w:World,yL 11 #[.int .i64 k,.int .i64 n] w fun e w' => e=.returned (.int .i64 (M:Int))/\w' = w)) (b3:Hid (∀ w:World,yL 11 #[.int .i64 a,.int .i64 n] w fun e w' => e=.returned (.int .i64 (aa:Int))/\w' = w)) (b4:Hid (∀ w:World,yL 11 #[.int .i64 b,.int .i64 9] w fun e w' => e=.returned (.int .i64 (bb:Int))/\w' = w)) (K:Nat->Value)
  (DC:Hid (∀ V,Below w.heap.size w V->yL 12 #[.slice a2 n c2] V fun e w' => ∃ E D,e=.returned (.slice (some ⟨E,0,none⟩) n D)/\n<=D/\D<=9223372036854775807/\Below V.heap.size V w' /\ V.heap.size<=E/\w'.ownsRow V.heap.size 34 1 (.slice (some ⟨E,0,none⟩) n D) n ((List.range n).map K)))
  (h8:0<n) (d7:M<n) (h6:aa<n) (i0:n<=8) (hW:Hid (zgb w ⟨a0,a1,a2,a3,a4,c0,c1,c2,c3,c4⟩ W)) (hC:Hid (WlC ⟨a0,a1,a2,a3,a4,c0,c1,c2,c3,c4⟩ W)) (HK:Hid ((∀ i,i<W.ps.length->∃ pa pc,K i=.slice pa (pg W.ps i).length pc/\zbE w pa (pg W.ps i))/\W.ps.length=n))
  (DS:Hid (∀ (E D:Nat) V,WlC ⟨a0,a1,some ⟨E,0,none⟩,a3,a4,c0,c1,D,c3,c4⟩ (setP W M [⟨10,aa,0,0,bb⟩])->zgb V ⟨a0,a1,some ⟨E,0,none⟩,a3,a4,c0,c1,D,c3,c4⟩ (setP W M [⟨10,aa,0,0,bb⟩])->yL 13 #[.agg #[.slice a0 n c0,.slice a1 n c1,.slice (some ⟨E,0,none⟩) n D,.slice a3 n c3,.slice a4 n4 c4],.agg #[.int .i64 M,.bool true]] V fun e w' => ∃ (f0 f1 f2 f3 f4:Option Addr) (g0 g1 g2 g3 g4:Nat),e=.returned (.tuple #[.agg #[.slice f0 n g0,.slice f1 n g1,.slice f2 n g2,.slice f3 n g3,.slice f4 m4 g4],.int .i64 0])/\Below V.heap.size V w' /\ zgb w' ⟨f0,f1,f2,f3,f4,g0,g1,g2,g3,g4⟩ Z))
  (hZ:Hid (Z.rs.length=n/\(rl Z.rs M).t.length=TL+1/\(rl Z.rs M).t.getD TL 0=TT)) (g9:TL<=5000) (c7:¬ TT=0) :
  yL 3 #[.agg #[.slice a0 n c0,.slice a1 n c1,.slice a2 n c2,.slice a3 n c3,.slice a4 n4 c4],.int .i64 k,.int .i64 a,.int .i64 b] w fun e w' => e=.returned (.bool true)/\Below w.heap.size w w' := by
 have h9:¬ ((n:Int)=0):=by omega
 have h7:(M:Int)<n:=by omega
 have h4:(aa:Int)<n:=by omega
 have b5:Hid (∀ (x m:Int) (y:Nat),(x=k/\m=n/\y=M\/x=a/\m=n/\y=aa\/x=b/\m=9/\y=bb)->∀ w:World,yL 11 #[.int .i64 x,.int .i64 m] w fun e w' => e=.returned (.int .i64 (y:Int))/\w' = w):=fun x m y h V=>by
  rcases h with ⟨rfl,rfl,rfl⟩ |⟨rfl,rfl,rfl⟩ |⟨rfl,rfl,rfl⟩
  ·exact b0.out V
  ·exact b3.out V
  ·exact b4.out V
 clear b0 b3 b4
 go_enter Tryz.func3,Tryz.ntmps3
 go_wp2_with fail
 refine ye (DT.out _) ?_;rintro e w1 ⟨rfl,T⟩;have K1:Hid (w1.heap[w.heap.size]?=some (.cells #[.slice a0 n c0,.slice a1 n c1,.slice a2 n c2,.slice a3 n c3,.slice a4 n4 c4] 28 (0,0))):=zav (yK w _) T;have B1:Hid (Below w.heap.size w w1):=(zaa w _).trans (T.mono (by simp));clear T;obtain⟨p0,p1,p2,p3,p4,pf,pl⟩:=zaq K1.out
 go_wp2_with fail
 refine ye (DK.out _ B1.out) ?_;rintro e w2 ⟨rfl,T⟩;have B2:Hid (Below w.heap.size w w2):=B1.out.trans (T.mono B1.out.size);have K2:Hid _:=zav K1.out T;clear p0 p1 p2 p3 p4 pf pl T K1 B1 DT DK;obtain⟨p0,p1,p2,p3,p4,pf,pl⟩:=zaq K2.out
 go_upto_region 3 with fail
 go_big_quiet (first|(go_at_call 11;exact Calls.quiet_of_same (b5.out _ _ _ (by first|exact Or.inl ⟨rfl,rfl,rfl⟩|exact Or.inr (Or.inl ⟨rfl,rfl,rfl⟩)|exact Or.inr (Or.inr ⟨rfl,rfl,rfl⟩)) _)))
 obtain⟨w3,a7⟩:∃ w3,w2.drewN nq=w3:=⟨_,rfl⟩;rw[a7];have B3:Hid (Below w.heap.size w w3):=by rw[<- a7];exact Below.drewNs B2.out nq
 have K3:Hid (w3.heap[w.heap.size]?=some (.cells #[.slice a0 n c0,.slice a1 n c1,.slice a2 n c2,.slice a3 n c3,.slice a4 n4 c4] 28 (0,0))):=by rw[<- a7];exact K2.out
 clear a7 p0 p1 p2 p3 p4 pf pl K2 B2 b5;obtain⟨p0,p1,p2,p3,p4,pf,pl⟩:=zaq K3.out
 go_wp2_with fail
 refine ye (DC.out _ (B3.out.alloc B3.out.size _)) ?_;rintro e I ⟨E,D,rfl,c8,c9,T,d6,a6⟩;have a5:Below (w3.heap.size+1) (w3.alloc (.cells #[.slice a0 n c0,.slice a1 n c1,.slice a2 n c2,.slice a3 n c3,.slice a4 n4 c4] 28)) I:=by simpa using T
 have e8:w3.heap.size+1<=E:=by simpa using d6
 have d8:w3.heap.size<I.heap.size:=by have:=a5.size;simp at this;omega
 have d5:E<I.heap.size:=by
  rcases a6.2 with ⟨e,_⟩ |⟨g', c6,J,e,_,F,_⟩
  ·cases e
  ·cases e;exact zau F
 have b8:Hid _:=a5;have OW:Hid _:=a6;have K9:Hid (I.heap[w3.heap.size]?=some (.cells #[.slice a0 n c0,.slice a1 n c1,.slice a2 n c2,.slice a3 n c3,.slice a4 n4 c4] 28 (0,0))):=(a5.block _ (by omega)).trans (yK w3 _);have K4:Hid (I.heap[w.heap.size]?=some (.cells #[.slice a0 n c0,.slice a1 n c1,.slice a2 n c2,.slice a3 n c3,.slice a4 n4 c4] 28 (0,0))):=zav (zav K3.out (zaa _ _)) (a5.mono (by simp));clear T d6 a6 a5 p0 p1 p2 p3 p4 pf DC;obtain⟨p0,p1,p2,p3,p4,pf,e9⟩:=zaq K4.out;obtain⟨q0,q1,q2,q3,q4,qf,ql⟩:=zaq K9.out
 have e3:∃ J,I.heap[E]?=some (.cells J 34 (0,0))/\J.size=D:=by
  rcases OW.out.2 with ⟨e,_⟩ |⟨g', c6,J,e,_,F,_,_,d9,_⟩
  ·cases e
  ·cases e;exact⟨J,F,by omega⟩
 obtain⟨J,F,d4⟩:=e3;have b9:Hid _:=F
 have a9:∃ v,I.cell? ⟨E,M,none⟩=some v:=by
  have:M<J.size:=by omega
  exact⟨J[M],by simp[World.cell?,F,this]⟩
 obtain⟨gv,gc⟩:=a9;have gf:∀ o,I.frozen? ⟨E,o,none⟩=false:=fun o=>by simp[World.frozen?,F]
 have e6:Hid (J.size=D):=d4;have d1:¬ E=w3.heap.size:=by omega
 have d2:¬ w3.heap.size=E:=by omega
 have d3:¬ w.heap.size=w3.heap.size:=by omega
 clear F d4
 go_upto_region 7 with fail
 obtain⟨U,O⟩:∃ U,(((I.setCell ⟨w3.heap.size,2,none⟩ (.slice (some ⟨E,0,none⟩) n D)).setCell ⟨E,M,none⟩ (.slice (some ⟨I.heap.size,0,none⟩) 1 1)).alloc (.cells #[.int .i64 10,.int .i64 aa,.int .i64 0,.int .i64 0,.int .i64 bb] 36))=U:=⟨_,rfl⟩;rw[O];have e1:I.heap.size<U.heap.size:=by rw[<- O];simp
 have B4:Hid (Below w.heap.size w I):=(B3.out.alloc B3.out.size _).trans (b8.out.mono (by have:=B3.out.size;omega));have e0:w.heap.size<=w3.heap.size:=B3.out.size
 have B5:Hid (Below w.heap.size w U):=by
  rw[<- O];exact((B4.out.setCell e0 _).setCell (by show w.heap.size<=E;omega) _).alloc (by have:=B4.out.size;simp;omega) _
 have e2:∀ c,c<I.heap.size->c≠w3.heap.size->c≠E->U.heap[c]?=I.heap[c]?:=fun c h1 h2 h3=>by
  rw[<- O,Below.heap_alloc _ _ _ (by simpa using h1),ys _ _ _ _ h3,ys _ _ _ _ h2]
 have K5:Hid (U.heap[w.heap.size]?=some (.cells #[.slice a0 n c0,.slice a1 n c1,.slice a2 n c2,.slice a3 n c3,.slice a4 n4 c4] 28 (0,0))):=(e2 _ (by omega) (by omega) (by omega)).trans K4.out
 have V5:Hid (U.heap[w3.heap.size]?=some (.cells #[.slice a0 n c0,.slice a1 n c1,.slice (some ⟨E,0,none⟩) n D,.slice a3 n c3,.slice a4 n4 c4] 28 (0,0))):=by
  rw[<- O];exact(Below.heap_alloc _ _ _ (by simpa using d8)).trans ((ys _ _ _ _ (by omega)).trans (zaG (i:=2) K9.out))
 have P5:Hid (zgb U ⟨a0,a1,some ⟨E,0,none⟩,a3,a4,c0,c1,D,c3,c4⟩ (setP W M [⟨10,aa,0,0,bb⟩])):=by
  obtain⟨hK,hlen⟩:=HK.out;refine⟨hW.out.fs.below B5.out,hW.out.rs.below B5.out,zlT (w:=w) (w1:=I) (q:=I.heap.size) (qc:=1) hlen hK OW.out d7 B5.out (fun i hi=>?_) (fun J t h=>?_),hW.out.qs.below B5.out,hW.out.pt.below B5.out⟩
  ·obtain rfl:i=0:=by have:i<1:=hi;omega
   rw[<- O];have d9:(((I.setCell ⟨w3.heap.size,2,none⟩ (.slice (some ⟨E,0,none⟩) n D)).setCell ⟨E,M,none⟩ (.slice (some ⟨I.heap.size,0,none⟩) 1 1))).heap.size=I.heap.size:=(by simp);have hx:=fun j v (hv:(#[.int .i64 10,.int .i64 aa,.int .i64 0,.int .i64 0,.int .i64 bb]:Array Value)[j]?=some v)=>zad (((I.setCell ⟨w3.heap.size,2,none⟩ (.slice (some ⟨E,0,none⟩) n D)).setCell ⟨E,M,none⟩ (.slice (some ⟨I.heap.size,0,none⟩) 1 1))) _ 36 j hv;rw[d9] at hx;exact⟨I.heap.size,0,rfl,hx 0 _ rfl,hx 1 _ rfl,hx 2 _ rfl,hx 3 _ rfl,hx 4 _ rfl⟩
  ·rw[<- O];exact(Below.heap_alloc _ _ _ (by simpa using d5)).trans (zaG (i:=M) ((ys _ _ _ _ d1).trans h))
 have C5:Hid (WlC ⟨a0,a1,some ⟨E,0,none⟩,a3,a4,c0,c1,D,c3,c4⟩ (setP W M [⟨10,aa,0,0,bb⟩])):=by
  obtain⟨hK,hlen⟩:=HK.out;exact⟨hC.out.s0,hC.out.s1,⟨(fun e=>by cases e),by show (W.ps.set M _).length<=_;rw[List.length_set,hlen];exact c8,c9⟩,hC.out.s3,hC.out.s4⟩
 clear O e2 B4 K4 K9 OW b9 e6 gc gf p0 p1 p2 p3 p4 pf e9 q0 q1 q2 q3 q4 qf ql b8;obtain⟨q0,q1,q2,q3,q4,qf,ql⟩:=zaq V5.out
 go_wp2_with fail
 refine ye (DS.out E D _ C5.out P5.out) ?_;rintro e w6 ⟨f0,f1,f2,f3,f4,g0,g1,g2,g3,g4,rfl,T,hz⟩;have b6:Hid (Below U.heap.size U w6):=T;have Z6:Hid (zgb w6 ⟨f0,f1,f2,f3,f4,g0,g1,g2,g3,g4⟩ Z):=hz;clear T hz P5 C5 DS q0 q1 q2 q3 q4 qf ql d1 d2 d3 HK c8 c9 e8 d8 d5 e1
 go_upto_region 8 with fail
 obtain⟨w7,a8⟩:∃ w7,w6.alloc (.cells #[.slice f0 n g0,.slice f1 n g1,.slice f2 n g2,.slice f3 n g3,.slice f4 m4 g4] 28)=w7:=⟨_,rfl⟩;rw[a8];have b7:Hid (Below w6.heap.size w6 w7):=by rw[<- a8];exact zaa _ _
 have e7:Hid (w7.heap[w6.heap.size]?=some (.cells #[.slice f0 n g0,.slice f1 n g1,.slice f2 n g2,.slice f3 n g3,.slice f4 m4 g4] 28 (0,0))):=by rw[<- a8];exact yK _ _
 have e5:Hid (Below U.heap.size U w7):=b6.out.trans (b7.out.mono b6.out.size);have e4:Hid (Below w.heap.size w w7):=B5.out.trans (e5.out.mono B5.out.size);clear a8;obtain⟨q0,q1,q2,q3,q4,qf,ql⟩:=zaq e7.out;obtain⟨rb,ro,A,er,r0,r1,r2,r3,hr⟩:=(Z6.out.below b7.out).rs M (by rw[hZ.out.1];exact d7);dsimp only at er;subst er;obtain⟨tb,i1,et,t0⟩:=hr.2.2.2 TL (by rw[hZ.out.2.1];omega);rw[hZ.out.2.1,et] at r3;rw[hZ.out.2.2] at t0;clear r0 r1 r2 hr et;have g5:IntKind.i64.wrap (TL:Int)=TL:=by rw[yH];omega
 have g6:IntKind.i64.wrap ((TL:Int)+1-1)=TL:=by rw[yH];omega
 have g7:(TL:Int)<(TL:Int)+1:=by omega
 have g8:(0:Int)<=TL:=by omega
 have b1:(TT != 0)=true:=by simpa using c7
 have b2:(TT == 0)=false:=by simpa using c7
 go_big_quiet (fail)
 go_wp2
 go_ret;exact⟨rfl,zcZ e4.out _⟩
theorem zmh{x:Int}(h:isH x):∃ p:Nat,x=p/\p<16:=⟨x.toNat,by have:=h.1;omega,by have:=h.2;have:=h.1;omega⟩
theorem zdV{w W:World}{t:Nat}{D v1 v2 E:Value}(F:Below (w.heap.size+1) (w.alloc (.cells #[D,v1,v2,E] t)) W):W.heap[w.heap.size]?=some (.cells #[D,v1,v2,E] t (0,0)):=(F.block _ (Nat.lt_succ_self _)).trans (zcd _ _ _ _ _ _)
theorem zen:zrN:=fun A R w hB hW=>by
 obtain⟨a0,a1,a2,a3,c0,c1,c2,c3⟩:=A;obtain⟨hN,a7,hH,hI,a6,hT⟩:=hB;obtain⟨w0,w1,w2,w3⟩:=hW;have I:Hid (∀ o1,_):=fun o1=>zdW a0 c0 R.s (w.alloc o1) hN a7 (w0.below (zaa _ _));have M:Hid (∀ W,Below w.heap.size w W->_):=fun W hW=>zfH a2 c2 R.i W hI a6 (w2.below hW);clear w0 w1 w2 w3 a7 a6;dsimp only[rlV];unfold zaE;obtain⟨E0,h0⟩:∃ E,zbr R.s=E:=⟨_,rfl⟩;obtain⟨E1,h1⟩:∃ E,zaz R.i=E:=⟨_,rfl⟩;rw[h0] at I |-;rw[h1] at M |-;clear h0 h1;generalize R.s.length=n0 at *;generalize R.i.length=n2 at *;generalize R.t.length=n3 at *;generalize R.hs.length=n1 at *;by_cases e0:E0=0
 ·subst e0;rw[yb rfl];by_cases e1:n1=16
  ·subst e1;rw[yb rfl];by_cases e2:E1=0
   ·subst e2;rw[yb rfl];by_cases e3:4800<n3
    ·rw[yb e3];have a9:(4800:Int)<(n3:Int):=by omega
     go_enter Tryz.func32,Tryz.ntmps32
     go_wp2_with fail
     refine ye (I.out _) ?_;rintro e V ⟨rfl,D⟩;have F:Hid (Below w.heap.size w V):=(zaa w _).trans (D.mono (by simp));simp only[yr] at D;have O:Hid _:=zdV D;obtain⟨U,Z,l2,l3,T,lt⟩:=zai O.out;clear D I
     go_wp2_with fail
     refine ye (M.out _ F.out) ?_;rintro e V2 ⟨rfl,D⟩;have J:Hid (Below w.heap.size w V2):=F.out.trans (D.mono F.out.size);have a5:Hid _:=zav O.out D;clear U Z l2 l3 T lt;obtain⟨U,Z,l2,l3,T,lt⟩:=zai a5.out;clear D M
     go_wp2
     go_ret;exact⟨rfl,J.out⟩
    ·rw[ya e3];have a9:¬ (4800:Int)<(n3:Int):=by omega
     go_enter Tryz.func32,Tryz.ntmps32
     go_wp2_with fail
     refine ye (I.out _) ?_;rintro e V ⟨rfl,D⟩;have F:Hid (Below w.heap.size w V):=(zaa w _).trans (D.mono (by simp));simp only[yr] at D;have O:Hid _:=zdV D;obtain⟨U,Z,l2,l3,T,lt⟩:=zai O.out;clear D I
     go_wp2_with fail
     refine ye (M.out _ F.out) ?_;rintro e V2 ⟨rfl,D⟩;have J:Hid (Below w.heap.size w V2):=F.out.trans (D.mono F.out.size);have a5:Hid _:=zav O.out D;clear U Z l2 l3 T lt;obtain⟨U,Z,l2,l3,T,lt⟩:=zai a5.out;clear D M
     go_wp2
     go_ret;exact⟨rfl,J.out⟩
   ·rw[ya e2];have hz:(E1 == 0)=false:=by simp[e2]
    go_enter Tryz.func32,Tryz.ntmps32
    go_wp2_with fail
    refine ye (I.out _) ?_;rintro e V ⟨rfl,D⟩;have F:Hid (Below w.heap.size w V):=(zaa w _).trans (D.mono (by simp));simp only[yr] at D;have O:Hid _:=zdV D;obtain⟨U,Z,l2,l3,T,lt⟩:=zai O.out;clear D I
    go_wp2_with fail
    refine ye (M.out _ F.out) ?_;rintro e V2 ⟨rfl,D⟩;have J:Hid (Below w.heap.size w V2):=F.out.trans (D.mono F.out.size);clear U Z l2 l3 T lt D M
    go_wp2
    go_ret;exact⟨rfl,J.out⟩
  ·rw[ya e1];have a8:¬ ((n1:Int)=16):=(by omega);have hz:((n1:Int) == 16)=false:=by simp[a8]
   go_enter Tryz.func32,Tryz.ntmps32
   go_wp2_with fail
   refine ye (I.out _) ?_;rintro e V ⟨rfl,D⟩;have F:Hid (Below w.heap.size w V):=(zaa w _).trans (D.mono (by simp));simp only[yr] at D;have O:Hid _:=zdV D;obtain⟨U,Z,l2,l3,T,lt⟩:=zai O.out;clear D I M
   go_wp2
   go_ret;exact⟨rfl,F.out⟩
 ·rw[ya e0];have hz:(E0 == 0)=false:=by simp[e0]
  go_enter Tryz.func32,Tryz.ntmps32
  go_wp2_with fail
  refine ye (I.out _) ?_;rintro e V ⟨rfl,D⟩;have F:Hid (Below w.heap.size w V):=(zaa w _).trans (D.mono (by simp));clear D I M
  go_wp2
  go_ret;exact⟨rfl,F.out⟩
theorem zyw(p:Int)(w:World)(D:p<0\/24<p) :
  yL 62 #[.int .i64 p] w fun e w' => e=.returned (.tuple #[.agg #[.slice none 0 0],.int .i64 2])/\Below w.heap.size w w' := by
 go_enter Tryz.func62,Tryz.ntmps62
 go_wp2_with (go_at_call 66;refine(zhi _ _ _ _ D).mono ?_;rintro e w' ⟨rfl,rfl⟩)
 first
  |(go_ret;exact⟨rfl,yk _ _⟩)
  |(go_ret;exact⟨rfl,(yk _ _).alloc (yj _) _⟩)
  |(refine yv (v:=.tuple #[.agg #[.slice none 0 0],.int .i64 2]) (by simp[results,Tryz.results62,go_sem]) rfl ⟨rfl,?_⟩;first|exact(yk _ _).alloc (yj _) _|exact((yk _ _).alloc (yj _) _).setCell (by simp) _|exact(((yk _ _).alloc (yj _) _).setCell (by simp) _).drew)
theorem ztE{w w' : World}{g n:Nat}(h:zah w (some ⟨g,0,none⟩) (List.replicate n zbe))(I:w'.heap[g]?=w.heap[g]?):zah w' (some ⟨g,0,none⟩) (List.replicate n zbe):=fun i hi=>by
 obtain⟨b,o,e,hn⟩:=h i hi;cases e;have D:i<n:=by simpa using hi
 rw[zfo n i _ D] at hn |-;obtain⟨c0,c1,c2,c3,c4,⟨ka,kc,c5,_⟩,E,F⟩:=hn;have hc:∀ o,w'.cell? ⟨g,o,none⟩=w.cell? ⟨g,o,none⟩:=fun o=>yB I;exact⟨g,0,rfl,(hc _).trans c0,(hc _).trans c1,(hc _).trans c2,(hc _).trans c3,(hc _).trans c4,⟨ka,kc,(hc _).trans c5,fun j J=>absurd J (yw _)⟩,(hc _).trans E,(hc _).trans F⟩
theorem zod{w w' : World}{g:Nat}{H:List (Int × Int)}(h:zaw w (some ⟨g,0,none⟩) H)(D:w'.heap[g]?=w.heap[g]?):zaw w' (some ⟨g,0,none⟩) H:=fun i hi=>by
 obtain⟨b,o,e,h1,E⟩:=h i hi;cases e;exact⟨g,0,rfl,(yB D).trans h1,(yB D).trans E⟩
theorem ztF(n:Nat)(w:World)(hn:n<=24):yL 28 #[.int .i64 (n:Int)] w fun e w' => ∃ (a0 a1:Option Addr) (c0:Nat),e=.returned (.tuple #[.agg #[.slice a0 n c0,.slice a1 16 16,.slice none 0 0,.slice none 0 0],.int .i64 0])/\Below w.heap.size w w' /\ St (fun b=>b<w.heap.size) (fun V=>zah V a0 (List.replicate n zbe)/\zaw V a1 (List.replicate 16 (0,0))) w' := by
 have D:Hid (∀ U,_):=fun U=>zwv n (w.alloc U) hn;clear hn;have a6:=zov
 go_enter Tryz.func28,Tryz.ntmps28
 go_wp2_with fail
 refine ye (D.out _) ?_;rintro e V ⟨g,rfl,F,hn,M,a5⟩;have O:Hid (Below w.heap.size w V):=(zaa w _).trans (F.mono (by simp));have HN:Hid (zah V (some ⟨g,0,none⟩) (List.replicate n zbe)):=hn;simp only[yr] at F M;have I:Hid _:=zdV F;obtain⟨l0,l1,l2,l3,fz,lt⟩:=zai I.out;clear F D hn
 go_wp2_with fail
 go_region
 go_wp2
 have SL:Hid (SlB V w.heap.size):=zzX I.out ⟨_,_,_,rfl⟩ ⟨_,_,_,rfl⟩ ⟨_,_,_,rfl⟩ ⟨_,_,_,rfl⟩;obtain⟨X,E⟩:∃ X,(((V.setCell ⟨w.heap.size,0,none⟩ (.slice (some ⟨g,0,none⟩) n n)).setCell ⟨w.heap.size,1,none⟩ (.slice (some ⟨V.heap.size+1,0,none⟩) 16 16)).setCell ⟨w.heap.size,2,none⟩ (.slice none 0 0)).setCell ⟨w.heap.size,3,none⟩ (.slice none 0 0)=X:=⟨_,rfl⟩;have x0:X.heap[w.heap.size]?=some (.cells #[.slice (some ⟨g,0,none⟩) n n,.slice (some ⟨V.heap.size+1,0,none⟩) 16 16,.slice none 0 0,.slice none 0 0] 50 (0,0)):=by rw[<- E];exact zcN I.out
 have x1:zah X (some ⟨g,0,none⟩) (List.replicate n zbe):=by rw[<- E];exact HN.out.offB SL.out (zuT.refl _ _).set.set.set.set
 have x2:X.heap.size=V.heap.size:=by rw[<- E];simp
 have Z:Below w.heap.size w X:=by rw[<- E];exact(((O.out.setCell (yj _) _).setCell (yj _) _).setCell (yj _) _).setCell (yj _) _
 rw[E];clear E;have x4:=zqA (X.alloc (Obj.cells #[Value.slice (some ⟨g,0,none⟩) n n] 43));rw[yr,x2] at x4;have J:=(zam X (Obj.cells #[Value.slice (some ⟨g,0,none⟩) n n] 43) (Obj.cells (madeCells #[Value.int IntKind.i64 0,Value.int IntKind.i64 0] 32) 61)).drew;have x5:=zav x0 J;obtain⟨m0,m1,m2,m3,mf,ml⟩:=zai x5;refine yv (v:=.tuple #[.agg #[.slice (some ⟨g,0,none⟩) n n,.slice (some ⟨V.heap.size+1,0,none⟩) 16 16,.slice none 0 0,.slice none 0 0],.int .i64 0]) (by simp[results,Tryz.results28,go_sem,m0,m1,m2,m3]) rfl ⟨some ⟨g,0,none⟩,some ⟨V.heap.size+1,0,none⟩,n,by simp,Z.trans (J.mono Z.size),fun V' T=>⟨ztE (x1.below J) (T.block g (by simp;omega) (by omega)),zod (x4.below (yk _ _).drew) (T.block _ (by simp;omega) (by have:=O.out.size;omega))⟩⟩
theorem zyx:zoU:=fun p w=>by
 by_cases J:0<=p/\p<=24
 ·have F:zdm p=⟨List.replicate p.toNat zbe,List.replicate 16 (0,0),[],[]⟩:=yb J;have I:zAq p=0:=yb J;rw[F,I];clear F I;obtain⟨n,rfl⟩:∃ n:Nat,p=n:=⟨p.toNat,by omega⟩;rw[yi];refine(ztF n w (by omega)).mono ?_;rintro e V ⟨a0,a1,c0,rfl,E,hs⟩;exact⟨⟨a0,a1,none,none,c0,16,0,0⟩,by simp[rlV],E,hs.at.1,hs.at.2,fun _ h=>absurd h (yw _),fun _ h=>absurd h (yw _)⟩
 ·have F:zdm p=zbL:=ya J;have I:zAq p=2:=ya J;rw[F,I];clear F I;have D:Hid (∀ U,_):=fun U=>zyw p (w.alloc U) (by omega);clear J
  go_enter Tryz.func28,Tryz.ntmps28
  go_wp2_with fail
  refine ye (D.out _) ?_;rintro e V ⟨rfl,E⟩;have HB:Hid (Below w.heap.size w V):=(zaa w _).trans (E.mono (by simp));simp only[yr] at E;have O:Hid _:=zdV E;obtain⟨l0,l1,l2,l3,fz,lt⟩:=zai O.out;clear E D
  go_wp2
  obtain⟨X,M⟩:∃ X,(((V.setCell ⟨w.heap.size,0,none⟩ (.slice none 0 0)).setCell ⟨w.heap.size,1,none⟩ (.slice none 0 0)).setCell ⟨w.heap.size,2,none⟩ (.slice none 0 0)).setCell ⟨w.heap.size,3,none⟩ (.slice none 0 0)=X:=⟨_,rfl⟩;have x0:X.heap[w.heap.size]?=some (.cells #[.slice none 0 0,.slice none 0 0,.slice none 0 0,.slice none 0 0] 50 (0,0)):=by rw[<- M];exact zcN O.out
  have Z:Below w.heap.size w X:=by rw[<- M];exact(((HB.out.setCell (yj _) _).setCell (yj _) _).setCell (yj _) _).setCell (yj _) _
  rw[M];clear M;have T:=zaa X (Obj.cells #[Value.slice none 0 0] 43);have x5:=zav x0 T;obtain⟨m0,m1,m2,m3,mf,ml⟩:=zai x5;refine yv (v:=.tuple #[.agg #[.slice none 0 0,.slice none 0 0,.slice none 0 0,.slice none 0 0],.int .i64 2]) (by simp[results,Tryz.results28,go_sem,m0,m1,m2,m3]) rfl ⟨⟨none,none,none,none,0,0,0,0⟩,rfl,Z.trans (T.mono Z.size),zjv _ _⟩
theorem zcE(A:RA)(R:Rl)(k:Int)(w:World)(hl:R.hs.length=16) :
  yL 161 #[rlV A R,.int .i64 k] w fun e w' => e=.returned (.bool (decide (isH k)))/\Below w.heap.size w w' := by
 dsimp only[rlV];rw[hl];have D:Hid (∀ W,Calls _ _ _ _ _):=fun W=>zaR k 0 15 W;have hd:decide (0<=k/\k<=15)=decide (isH k):=rfl;rw[hd] at D;clear hd hl;generalize decide (isH k)=r at *
 go_enter Tryz.func161,Tryz.ntmps161
 go_wp2_with fail
 refine ye (D.out _) ?_;rintro e V ⟨rfl,E⟩;subst E
 go_wp2
 go_ret;exact⟨rfl,zaa _ _⟩
def hcF(hs:List (Int × Int)):Nat->Value:=fun j=>.int .i64 (if j % 2=0 then (hs.getD (j / 2) (0,0)).1 else (hs.getD (j / 2) (0,0)).2)
theorem zzy(hs:List (Int × Int))(i:Nat):hcF hs (i*2)=.int .i64 (hs.getD i (0,0)).1:=by
 unfold hcF;rw[yb (by omega),show i*2 / 2=i by omega]
theorem zzz(hs:List (Int × Int))(i:Nat):hcF hs (i*2+1)=.int .i64 (hs.getD i (0,0)).2:=by
 unfold hcF;rw[ya (by omega),show (i*2+1) / 2=i by omega]
theorem zff{w:World}{h:Nat}{hs:List (Int × Int)}(D:w.rowIs h 61 (hs.length*2) (hcF hs)):zaw w (some ⟨h,0,none⟩) hs:=fun i hi=>by
 refine⟨h,0,rfl,?_,?_⟩
 ·rw[yz,D.cell (by omega),zzy]
 ·rw[yz,D.cell (by omega),zzz]
theorem zyk(hs:List (Int × Int))(k:Nat)(x:Int × Int)(E:k<hs.length):(fun j=>if j=k*2+1 then Value.int .i64 x.2 else if j=k*2 then Value.int .i64 x.1 else hcF hs j)=hcF (hs.set k x):=by
 have key:∀ i,(hs.set k x).getD i (0,0)=if i=k then x else hs.getD i (0,0):=fun i=>by
  by_cases e:i=k
  ·subst e;rw[yb rfl];simp[List.getD_eq_getElem?_getD,E]
  ·rw[ya e];exact zgT _ _ _ _ _ e
 funext j
 unfold hcF;rw[key];by_cases h1:j=k*2+1
 ·subst h1;rw[yb rfl,ya (by omega),yb (by omega)]
 ·rw[ya h1];by_cases D:j=k*2
  ·subst D;rw[yb rfl,yb (by omega),yb (by omega)]
  ·rw[ya D,ya (show ¬ j / 2=k by omega)]
def zlc(w:World)(g:Nat)(X:Nat->Prop)(S:List Nd):Prop :=
 ¬ X g/\∃ F,w.rowIs g 57 (S.length*8) F/\∀ i,i<S.length->∃ kb kc,NdR w F (i*8) (nd S i) kb kc/\kb≠g/\¬ X kb
theorem zlc.off{w w' : World}{g:Nat}{X:Nat->Prop}{S:List Nd}(h:zlc w g X S)(J:zar X w w'):zlc w' g X S:=by
 obtain⟨hg,F,E,hN⟩:=h;refine⟨hg,F,E.of_block (J.block g E.lt hg),fun i hi=>?_⟩;obtain⟨kb,kc,⟨O,T,U,Z,e4,e5,e6,e7,e8,D,G,I,e9⟩,hk,M⟩:=hN i hi;exact⟨kb,kc,⟨O,T,U,Z,e4,e5,e6,e7,e8,D,G,I.of_block (J.block kb I.lt M),e9⟩,hk,M⟩
theorem zlc.lt{w:World}{g:Nat}{X:Nat->Prop}{S:List Nd}(h:zlc w g X S):g<w.heap.size:=by
 obtain⟨_,F,D,_⟩:=h;exact D.lt
theorem zlc.grow{w:World}{g:Nat}{X Y:Nat->Prop}{S:List Nd}(h:zlc w g X S)(I:∀ b,b<w.heap.size->Y b->X b):zlc w g Y S:=by
 obtain⟨hg,F,E,J⟩:=h;refine⟨fun D=>hg (I g E.lt D),F,E,fun i hi=>?_⟩;obtain⟨kb,kc,h1,M,O⟩:=J i hi;exact⟨kb,kc,h1,M,fun D=>O (I kb h1.row D)⟩
theorem zlc.nds{w:World}{g:Nat}{X:Nat->Prop}{S:List Nd}(h:zlc w g X S):zah w (some ⟨g,0,none⟩) S:=fun i hi=>by
 obtain⟨_,F,D,hN⟩:=h;obtain⟨kb,kc,⟨E,I,J,M,O,T,U,Z,e8,a5,G,hG,e9⟩,_⟩:=hN i hi;refine⟨g,0,rfl,?_⟩;rw[yz];refine⟨?_,?_,?_,?_,?_,⟨some ⟨kb,0,none⟩,kc,?_,fun j hj=>⟨kb,0,rfl,?_⟩⟩,?_,?_⟩
 ·rw[D.cell (by omega),E]
 ·rw[D.cell (by omega),I]
 ·rw[D.cell (by omega),J]
 ·rw[D.cell (by omega),M]
 ·rw[D.cell (by omega),O]
 ·rw[D.cell (by omega),T]
 ·rw[yz,hG.cell (by omega),e9 j hj]
 ·rw[D.cell (by omega),U]
 ·rw[D.cell (by omega),Z]
theorem zlc.st{w:World}{g:Nat}{X:Nat->Prop}{S:List Nd}(h:zlc w g X S):St X (fun V=>zah V (some ⟨g,0,none⟩) S) w:=fun w' D=>(h.off D).nds
theorem zlc.mark{w:World}{g:Nat}{X:Nat->Prop}{S:List Nd}{k:Nat}(h:zlc w g X S)(hk:k<S.length)(n:Int):zlc (w.setCell ⟨g,k*8+3,none⟩ (.int .i64 n)) g X (S.set k { nd S k with m:=n }):=by
 obtain⟨hg,F,hF,hN⟩:=h;refine⟨hg,_,by rw[List.length_set];exact hF.set (k*8+3) (.int .i64 n),fun i hi=>?_⟩;rw[List.length_set] at hi;obtain⟨kb,kc,⟨O,T,U,e3,Z,e5,e6,e7,J,D,G,hG,M⟩,I,hx⟩:=hN i hi;have E:=hG.setOther (a:=⟨g,k*8+3,none⟩) (by simp;omega) (.int .i64 n);refine⟨kb,kc,?_,I,hx⟩;rw[zcR S k i _ hk];by_cases e:i=k
 ·subst e;rw[yb rfl];refine⟨?_,?_,?_,?_,?_,?_,?_,?_,J,D,G,E,M⟩
  all_goals dsimp only
  ·rw[ya (by omega),O]
  ·rw[ya (by omega),T]
  ·rw[ya (by omega),U]
  ·rw[yb rfl]
  ·rw[ya (by omega),Z]
  ·rw[ya (by omega),e5]
  ·rw[ya (by omega),e6]
  ·rw[ya (by omega),e7]
 ·rw[ya e];refine⟨?_,?_,?_,?_,?_,?_,?_,?_,J,D,G,E,M⟩
  all_goals
   dsimp only;rw[ya (by omega)];assumption
def tOf(A:RA):Nat:=(A.a3.getD ⟨0,0,none⟩).block
abbrev zrE(R:Rl):Nat->Value:=fun j=>.int .i64 (R.t.getD j 0)
structure CI (w:World) (R:Rl) (h g:Nat) (A:RA) (V:World):Prop where
 bel:Below w.heap.size w V
 h0:w.heap.size<=h
 t0:w.heap.size<=tOf A
 th:tOf A≠h
 a0:A.a0=some ⟨g,0,none⟩
 a1:A.a1=some ⟨h,0,none⟩
 a3:A.a3=some ⟨tOf A,0,none⟩
 c3:A.c3=R.t.length
 row:V.rowIs h 61 (R.hs.length*2) (hcF R.hs)
 tr:V.rowIs (tOf A) 3 R.t.length (zrE R)
 own:zlc V g (fun b=>b<w.heap.size\/b=h\/b=tOf A) R.s
 cls:St (fun b=>b<w.heap.size\/b=h\/b=tOf A\/b=g) (fun V=>zaF V A.a2 R.i) V
structure WI (w:World) (R:Rl) (d h g:Nat) (A:RA) (V:World):Prop where
 bel:Below w.heap.size w V
 d0:w.heap.size<=d
 h0:w.heap.size<=h
 t0:w.heap.size<=tOf A
 dh:h≠d
 th:tOf A≠h
 td:tOf A≠d
 a0:A.a0=some ⟨g,0,none⟩
 a1:A.a1=some ⟨h,0,none⟩
 a3:A.a3=some ⟨tOf A,0,none⟩
 c3:A.c3=R.t.length
 box:V.heap[d]?=some (bxR A R)
 row:V.rowIs h 61 (R.hs.length*2) (hcF R.hs)
 tr:V.rowIs (tOf A) 3 R.t.length (zrE R)
 own:zlc V g (fun b=>b<w.heap.size\/b=d\/b=h\/b=tOf A) R.s
 cls:St (fun b=>b<w.heap.size\/b=d\/b=h\/b=tOf A\/b=g) (fun V=>zaF V A.a2 R.i) V
theorem CI.wi{w V:World}{R:Rl}{h g:Nat}{A:RA}(I:CI w R h g A V):WI w R V.heap.size h g A (V.alloc (.cells #[.slice A.a0 R.s.length A.c0,.slice A.a1 R.hs.length A.c1,.slice A.a2 R.i.length A.c2,.slice A.a3 R.t.length A.c3] 50)):=by
 have D:=zaa V (.cells #[.slice A.a0 R.s.length A.c0,.slice A.a1 R.hs.length A.c1,.slice A.a2 R.i.length A.c2,.slice A.a3 R.t.length A.c3] 50);have hl:=I.row.lt;have tl:=I.tr.lt;exact⟨I.bel.trans (D.mono I.bel.size),I.bel.size,I.h0,I.t0,by omega,I.th,by omega,I.a0,I.a1,I.a3,I.c3,zcd _ _ _ _ _ _,I.row.of_block (D.block h hl),I.tr.of_block (D.block _ tl),(I.own.grow (fun b E F=>by omega)).off (zar.of_below D),I.cls.grow (zar.of_below D) (fun b E F=>by omega)⟩
theorem WI.below{w V E:World}{R:Rl}{d h g:Nat}{A:RA}(I:WI w R d h g A V)(D:Below V.heap.size V E):WI w R d h g A E :=
 ⟨I.bel.trans (D.mono I.bel.size),I.d0,I.h0,I.t0,I.dh,I.th,I.td,I.a0,I.a1,I.a3,I.c3,zav I.box D,I.row.of_block (D.block h I.row.lt),I.tr.of_block (D.block _ I.tr.lt),I.own.off (zar.of_below D),I.cls.off (zar.of_below D)⟩
theorem WI.nds{w V:World}{R:Rl}{d h g:Nat}{A:RA}(I:WI w R d h g A V):zah V (some ⟨g,0,none⟩) R.s:=I.own.nds
theorem WI.gs{w V:World}{R:Rl}{d h g:Nat}{A:RA}(I:WI w R d h g A V):w.heap.size<=g/\g≠d/\h≠g/\tOf A≠g:=by
 have:=I.own.1;omega
theorem WI.base{w V:World}{R:Rl}{d h g:Nat}{A:RA}(I:WI w R d h g A V):w.heap.size<=V.heap.size/\d<V.heap.size/\h<V.heap.size/\tOf A<V.heap.size:=⟨I.bel.size,zau I.box,I.row.lt,I.tr.lt⟩
theorem WI.hand{w V:World}{R:Rl}{d h g:Nat}{A:RA}(I:WI w R d h g A V){k:Nat}(D:k<R.hs.length):V.cell? ⟨h,k*2,none⟩=some (.int .i64 (hd R k).1)/\V.cell? ⟨h,k*2+1,none⟩=some (.int .i64 (hd R k).2):=by
 have e:hd R (k:Int)=R.hs.getD k (0,0):=by unfold hd;rw[yi]
 rw[e];exact⟨by rw[I.row.cell (by omega),zzy],by rw[I.row.cell (by omega),zzz]⟩
structure RlF (B d:Nat) (V:World) (A:RA) (R:Rl):Prop where
 a3:A.a3=some ⟨tOf A,0,none⟩
 c3:A.c3=R.t.length
 t0:B<=tOf A
 td:tOf A≠d
 tr:V.rowIs (tOf A) 3 R.t.length (zrE R)
 st:St (fun b=>b<B\/b=d\/b=tOf A) (fun V=>zah V A.a0 R.s/\zaw V A.a1 R.hs/\zaF V A.a2 R.i) V
theorem RlF.off{B d:Nat}{V D:World}{A:RA}{R:Rl}(h:RlF B d V A R)(E:zar (fun b=>b<B\/b=d) V D):RlF B d D A R :=
 ⟨h.a3,h.c3,h.t0,h.td,h.tr.of_block (E.block _ h.tr.lt (by have:=h.t0;have:=h.td;omega)),h.st.off (E.mono (fun b F=>by omega))⟩
theorem RlF.below{B d:Nat}{V D:World}{A:RA}{R:Rl}(h:RlF B d V A R)(E:Below V.heap.size V D):RlF B d D A R:=h.off (zar.of_below E)
end Go.Proofs.YtcbcpomacdngmaaGreat
