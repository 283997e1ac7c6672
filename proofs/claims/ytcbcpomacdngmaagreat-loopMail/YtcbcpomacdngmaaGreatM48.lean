/-
  x
-/
import Derived.Test.YtcbcpomacdngmaaGreatM47
namespace Go.Proofs.YtcbcpomacdngmaaGreat
set_option maxRecDepth 100000
set_option maxHeartbeats 4000000
set_option linter.unusedVariables false
open Go.RowKit Go.ChangeShapes Go.WideShapes Go.ChangeAt
structure zqb (w V:World) (b aa:Nat) (Z:Wl) (j:Nat) (A:WA) (Y:Wl) (wr:World):Prop where
 bel:Below w.heap.size w wr
 off:zar (fun c=>c=b) V wr
 box:wr.heap[b]?=some (.cells #[.slice A.a0 Y.fs.length A.c0,.slice A.a1 Y.rs.length A.c1,.slice A.a2 Y.ps.length A.c2,.slice A.a3 Y.qs.length A.c3,.slice A.a4 Y.pt.length A.c4] 28 (0,0))
 wl:zgc (fun c=>c=b) wr A Y
 wc:WlC A Y
 rt:zan Y
 fs:Y.fs=Z.fs
 pr:prg Y aa=[]
 qu:que Y aa=(que Z aa).drop j
 inn:∀ i,j=i+1->(rlm Y aa).i=(ml (que Z aa) i).g
theorem zqb.next{w V wr T F:World}{b D j:Nat}{Z Y:Wl}{A B:WA}(h:zqb w V b D Z j A Y wr)(hb:w.heap.size<=b)(hE:zbK Y D false=0)(I:Below wr.heap.size wr T)(O:zgc (fun c=>c=b) T B (zaX Y D false))(M:WlC B (zaX Y D false))(E:F.heap[b]?=some (.cells #[.slice B.a0 (zaX Y D false).fs.length B.c0,.slice B.a1 (zaX Y D false).rs.length B.c1,.slice B.a2 (zaX Y D false).ps.length B.c2,.slice B.a3 (zaX Y D false).qs.length B.c3,.slice B.a4 (zaX Y D false).pt.length B.c4] 28 (0,0)))(U:zar (fun c=>c=b) T F)(J:Below w.heap.size w F) :
  zqb w V b D Z (j+1) B (zaX Y D false) F:=by
 obtain⟨_,h2,h3,h4,h5,h6⟩:=ztH h.pr hE;refine⟨J,(h.off.trans (zar.of_below I)).trans U,E,O.off U,M,h6,h5.trans h.fs,h4,by rw[h2,h.qu,List.drop_drop],fun i hi=>?_⟩;obtain rfl:i=j:=by omega
 rw[h3,h.qu];unfold ml;rw[List.getD_eq_getElem?_getD,List.getD_eq_getElem?_getD,List.getElem?_drop,Nat.add_zero];rfl
theorem ztq(Z:Wl)(m4 TL U:Nat)(G:List Cl)(MK:Nat->Int)(W:Wl)(n n4:Nat)(a0 a1 a2 a3 a4:Option Addr)(c0 c1 c2 c3 c4:Nat)(w:World)(DT:Hid (∀ V:World,yL 9 #[] V fun e w' => e=.returned (.bool true)/\Below V.heap.size V w'))
  (DK:Hid (∀ V,Below w.heap.size w V->yL 10 #[.agg #[.slice a0 n c0,.slice a1 n c1,.slice a2 n c2,.slice a3 n c3,.slice a4 n4 c4]] V fun e w' => e=.returned (.int .i64 0)/\Below V.heap.size V w')) (k a b:Int) (I D bb:Nat) (i0:Hid (∀ w:World,yL 11 #[.int .i64 k,.int .i64 n] w fun e w' => e=.returned (.int .i64 (I:Int))/\w' = w)) (i1:Hid (∀ w:World,yL 11 #[.int .i64 a,.int .i64 n] w fun e w' => e=.returned (.int .i64 (D:Int))/\w' = w)) (i2:Hid (∀ w:World,yL 11 #[.int .i64 b,.int .i64 9] w fun e w' => e=.returned (.int .i64 (bb:Int))/\w' = w)) (K:Nat->Value)
  (DC:Hid (∀ V,Below w.heap.size w V->yL 12 #[.slice a2 n c2] V fun e w' => ∃ T F,e=.returned (.slice (some ⟨T,0,none⟩) n F)/\n<=F/\F<=9223372036854775807/\Below V.heap.size V w' /\ V.heap.size<=T/\w'.ownsRow V.heap.size 34 1 (.slice (some ⟨T,0,none⟩) n F) n ((List.range n).map K)))
  (z9:0<n) (h4:I<n) (b3:D<n) (A1:n<=8) (hW:Hid (zgb w ⟨a0,a1,a2,a3,a4,c0,c1,c2,c3,c4⟩ W)) (hC:Hid (WlC ⟨a0,a1,a2,a3,a4,c0,c1,c2,c3,c4⟩ W)) (HK:Hid ((∀ i,i<W.ps.length->∃ pa pc,K i=.slice pa (pg W.ps i).length pc/\zbE w pa (pg W.ps i))/\W.ps.length=n))
  (DS:Hid (∀ (T F:Nat) V,WlC ⟨a0,a1,some ⟨T,0,none⟩,a3,a4,c0,c1,F,c3,c4⟩ (setP W I [⟨10,D,0,0,bb⟩])->zgb V ⟨a0,a1,some ⟨T,0,none⟩,a3,a4,c0,c1,F,c3,c4⟩ (setP W I [⟨10,D,0,0,bb⟩])->yL 13 #[.agg #[.slice a0 n c0,.slice a1 n c1,.slice (some ⟨T,0,none⟩) n F,.slice a3 n c3,.slice a4 n4 c4],.agg #[.int .i64 I,.bool true]] V fun e w' => ∃ (f0 f1 f2 f3 f4:Option Addr) (g0 g1 g2 g3 g4:Nat),e=.returned (.tuple #[.agg #[.slice f0 n g0,.slice f1 n g1,.slice f2 n g2,.slice f3 n g3,.slice f4 m4 g4],.int .i64 0])/\Below V.heap.size V w' /\ zgb w' ⟨f0,f1,f2,f3,f4,g0,g1,g2,g3,g4⟩ Z/\WlC ⟨f0,f1,f2,f3,f4,g0,g1,g2,g3,g4⟩ Z/\zgE (fun b=>b<V.heap.size) w' ⟨f0,f1,f2,f3,f4,g0,g1,g2,g3,g4⟩ Z))
  (hZ:Hid (Z.rs.length=n/\(rl Z.rs I).t.length=TL+1/\(rl Z.rs I).t.getD TL 0=0)) (x9:TL<=5000) (hQ:Hid (Z.qs.length=n/\(qu Z.qs D).length=U+1/\ml (qu Z.qs D) U=⟨I,G⟩/\(qu W.qs D).length=U/\W.qs.length=n/\W.rs.length=n)) (z8:U<=16) (y5:bb<=8)
  (hG:Hid (G.length=bb+1/\(cl G 0).n=bb/\∀ i,i<bb->(cl G (i+1)).n=MK i)) (k0:Hid ((rl W.rs I).hs.length=16)) (a8:Hid (zan Z/\Z.fs.length=n/\zax Z.fs D=0)) (q7:Hid (Z.pt.length=m4)) (p9:Hid (∀ (X:Nat->Prop) (A:WA) (Y:Wl) V,(∀ c,X c->c<V.heap.size)->zan Y->WlC A Y->zgc X V A Y->yL 13 #[wlV A Y,.agg #[.int .i64 (D:Int),.bool false]] V fun e w' => ∃ B:WA,e=.returned (.tuple #[wlV B (zaX Y D false),.int .i64 (zbK Y D false)])/\Below V.heap.size V w' /\ WlC B (zaX Y D false)/\zgc X w' B (zaX Y D false)))
  (DG:Hid (∀ (ga j9:Option Addr) (gc b2:Nat) (H:List Cl) V,H=G->zaF V ga H->zaF V j9 G->yL 15 #[.agg #[.slice ga H.length gc],.agg #[.slice j9 G.length b2]] V fun e w' => e=.returned (.bool true)/\Below V.heap.size V w'))
  (DF:Hid (∀ (sa:Option Addr) (sc:Nat) (i:Nat) (x1 x2:Int) V,i<bb->x1=((rl W.rs I).hs.getD i (0,0)).1->x2=((rl W.rs I).hs.getD i (0,0)).2->zah V sa (rl W.rs I).s->yL 14 #[.agg #[.slice sa (rl W.rs I).s.length sc],.agg #[.int .i64 x1,.int .i64 x2]] V fun e w' => ∃ (x:Nd) (ka:Option Addr) (kl kc:Nat),e=.returned (.tuple #[.agg #[.bool x.u,.int .i64 x.n,.int .i64 x.t,.int .i64 x.m,.int .i64 x.p,.slice ka kl kc,.int .i64 x.h,.bool x.c],.int .i64 0])/\Below V.heap.size V w' /\ x.m=MK i)) :
  yL 3 #[.agg #[.slice a0 n c0,.slice a1 n c1,.slice a2 n c2,.slice a3 n c3,.slice a4 n4 c4],.int .i64 k,.int .i64 a,.int .i64 b] w fun e w' => e=.returned (.bool true)/\Below w.heap.size w w' := by
 have A0:¬ ((n:Int)=0):=by omega
 have z7:(I:Int)<n:=by omega
 have y2:(D:Int)<n:=by omega
 have i3:Hid (∀ (x m:Int) (y:Nat),(x=k/\m=n/\y=I\/x=a/\m=n/\y=D\/x=b/\m=9/\y=bb)->∀ w:World,yL 11 #[.int .i64 x,.int .i64 m] w fun e w' => e=.returned (.int .i64 (y:Int))/\w' = w):=fun x m y h V=>by
  rcases h with ⟨rfl,rfl,rfl⟩ |⟨rfl,rfl,rfl⟩ |⟨rfl,rfl,rfl⟩
  ·exact i0.out V
  ·exact i1.out V
  ·exact i2.out V
 clear i0 i1 i2
 go_enter Tryz.func3,Tryz.ntmps3
 go_wp2_with fail
 refine ye (DT.out _) ?_;rintro e w1 ⟨rfl,hb⟩;have K1:Hid (w1.heap[w.heap.size]?=some (.cells #[.slice a0 n c0,.slice a1 n c1,.slice a2 n c2,.slice a3 n c3,.slice a4 n4 c4] 28 (0,0))):=zav (yK w _) hb;have B1:Hid (Below w.heap.size w w1):=(zaa w _).trans (hb.mono (by simp));clear hb;obtain⟨p0,p1,p2,p3,p4,pf,pl⟩:=zaq K1.out
 go_wp2_with fail
 refine ye (DK.out _ B1.out) ?_;rintro e w2 ⟨rfl,hb⟩;have B2:Hid (Below w.heap.size w w2):=B1.out.trans (hb.mono B1.out.size);have K2:Hid _:=zav K1.out hb;clear p0 p1 p2 p3 p4 pf pl hb K1 B1 DT DK;obtain⟨p0,p1,p2,p3,p4,pf,pl⟩:=zaq K2.out
 go_upto_region 3 with fail
 go_big_quiet (first|(go_at_call 11;exact Calls.quiet_of_same (i3.out _ _ _ (by first|exact Or.inl ⟨rfl,rfl,rfl⟩|exact Or.inr (Or.inl ⟨rfl,rfl,rfl⟩)|exact Or.inr (Or.inr ⟨rfl,rfl,rfl⟩)) _)))
 obtain⟨w3,d8⟩:∃ w3,w2.drewN nq=w3:=⟨_,rfl⟩;rw[d8];have B3:Hid (Below w.heap.size w w3):=by rw[<- d8];exact Below.drewNs B2.out nq
 have K3:Hid (w3.heap[w.heap.size]?=some (.cells #[.slice a0 n c0,.slice a1 n c1,.slice a2 n c2,.slice a3 n c3,.slice a4 n4 c4] 28 (0,0))):=by rw[<- d8];exact K2.out
 clear d8 p0 p1 p2 p3 p4 pf pl K2 B2 i3;obtain⟨p0,p1,p2,p3,p4,pf,pl⟩:=zaq K3.out
 go_wp2_with fail
 refine ye (DC.out _ (B3.out.alloc B3.out.size _)) ?_;rintro e w4 ⟨T,F,rfl,l4,l5,hb,m2,d6⟩;have d4:Below (w3.heap.size+1) (w3.alloc (.cells #[.slice a0 n c0,.slice a1 n c1,.slice a2 n c2,.slice a3 n c3,.slice a4 n4 c4] 28)) w4:=by simpa using hb
 have t1:w3.heap.size+1<=T:=by simpa using m2
 have m3:w3.heap.size<w4.heap.size:=by have:=d4.size;simp at this;omega
 have l9:T<w4.heap.size:=by
  rcases d6.2 with ⟨e,_⟩ |⟨g', j5,a9,e,_,a5,_⟩
  ·cases e
  ·cases e;exact zau a5
 have i7:Hid _:=d4;have OW:Hid _:=d6;have K9:Hid (w4.heap[w3.heap.size]?=some (.cells #[.slice a0 n c0,.slice a1 n c1,.slice a2 n c2,.slice a3 n c3,.slice a4 n4 c4] 28 (0,0))):=(d4.block _ (by omega)).trans (yK w3 _);have K4:Hid (w4.heap[w.heap.size]?=some (.cells #[.slice a0 n c0,.slice a1 n c1,.slice a2 n c2,.slice a3 n c3,.slice a4 n4 c4] 28 (0,0))):=zav (zav K3.out (zaa _ _)) (d4.mono (by simp));clear hb m2 d6 d4 p0 p1 p2 p3 p4 pf DC;obtain⟨p0,p1,p2,p3,p4,pf,t5⟩:=zaq K4.out;obtain⟨q0,q1,q2,q3,q4,qf,ql⟩:=zaq K9.out
 have o5:∃ a9,w4.heap[T]?=some (.cells a9 34 (0,0))/\a9.size=F:=by
  rcases OW.out.2 with ⟨e,_⟩ |⟨g', j5,a9,e,_,a5,_,_,n0,_⟩
  ·cases e
  ·cases e;exact⟨a9,a5,by omega⟩
 obtain⟨a9,a5,l6⟩:=o5;have i8:Hid _:=a5
 have g7:∃ v,w4.cell? ⟨T,I,none⟩=some v:=by
  have:I<a9.size:=by omega
  exact⟨a9[I],by simp[World.cell?,a5,this]⟩
 obtain⟨gv,gc⟩:=g7;have gf:∀ o,w4.frozen? ⟨T,o,none⟩=false:=fun o=>by simp[World.frozen?,a5]
 have q5:Hid (a9.size=F):=l6;have d1:¬ T=w3.heap.size:=by omega
 have d2:¬ w3.heap.size=T:=by omega
 have d3:¬ w.heap.size=w3.heap.size:=by omega
 clear a5 l6
 go_upto_region 7 with fail
 obtain⟨w5,b4⟩:∃ w5,(((w4.setCell ⟨w3.heap.size,2,none⟩ (.slice (some ⟨T,0,none⟩) n F)).setCell ⟨T,I,none⟩ (.slice (some ⟨w4.heap.size,0,none⟩) 1 1)).alloc (.cells #[.int .i64 10,.int .i64 D,.int .i64 0,.int .i64 0,.int .i64 bb] 36))=w5:=⟨_,rfl⟩;rw[b4];have n3:w4.heap.size<w5.heap.size:=by rw[<- b4];simp
 have B4:Hid (Below w.heap.size w w4):=(B3.out.alloc B3.out.size _).trans (i7.out.mono (by have:=B3.out.size;omega));have n1:w.heap.size<=w3.heap.size:=B3.out.size
 have B5:Hid (Below w.heap.size w w5):=by
  rw[<- b4];exact((B4.out.setCell n1 _).setCell (by show w.heap.size<=T;omega) _).alloc (by have:=B4.out.size;simp;omega) _
 have o0:∀ c,c<w4.heap.size->c≠w3.heap.size->c≠T->w5.heap[c]?=w4.heap[c]?:=fun c h1 h2 h3=>by
  rw[<- b4,Below.heap_alloc _ _ _ (by simpa using h1),ys _ _ _ _ h3,ys _ _ _ _ h2]
 have K5:Hid (w5.heap[w.heap.size]?=some (.cells #[.slice a0 n c0,.slice a1 n c1,.slice a2 n c2,.slice a3 n c3,.slice a4 n4 c4] 28 (0,0))):=(o0 _ (by omega) (by omega) (by omega)).trans K4.out
 have V5:Hid (w5.heap[w3.heap.size]?=some (.cells #[.slice a0 n c0,.slice a1 n c1,.slice (some ⟨T,0,none⟩) n F,.slice a3 n c3,.slice a4 n4 c4] 28 (0,0))):=by
  rw[<- b4];exact(Below.heap_alloc _ _ _ (by simpa using m3)).trans ((ys _ _ _ _ (by omega)).trans (zaG (i:=2) K9.out))
 have P5:Hid (zgb w5 ⟨a0,a1,some ⟨T,0,none⟩,a3,a4,c0,c1,F,c3,c4⟩ (setP W I [⟨10,D,0,0,bb⟩])):=by
  obtain⟨hK,hlen⟩:=HK.out;refine⟨hW.out.fs.below B5.out,hW.out.rs.below B5.out,zlT (w:=w) (w1:=w4) (q:=w4.heap.size) (qc:=1) hlen hK OW.out h4 B5.out (fun i hi=>?_) (fun a9 t h=>?_),hW.out.qs.below B5.out,hW.out.pt.below B5.out⟩
  ·obtain rfl:i=0:=by have:i<1:=hi;omega
   rw[<- b4];have n0:(((w4.setCell ⟨w3.heap.size,2,none⟩ (.slice (some ⟨T,0,none⟩) n F)).setCell ⟨T,I,none⟩ (.slice (some ⟨w4.heap.size,0,none⟩) 1 1))).heap.size=w4.heap.size:=(by simp);have hx:=fun j v (hv:(#[.int .i64 10,.int .i64 D,.int .i64 0,.int .i64 0,.int .i64 bb]:Array Value)[j]?=some v)=>zad (((w4.setCell ⟨w3.heap.size,2,none⟩ (.slice (some ⟨T,0,none⟩) n F)).setCell ⟨T,I,none⟩ (.slice (some ⟨w4.heap.size,0,none⟩) 1 1))) _ 36 j hv;rw[n0] at hx;exact⟨w4.heap.size,0,rfl,hx 0 _ rfl,hx 1 _ rfl,hx 2 _ rfl,hx 3 _ rfl,hx 4 _ rfl⟩
  ·rw[<- b4];exact(Below.heap_alloc _ _ _ (by simpa using l9)).trans (zaG (i:=I) ((ys _ _ _ _ d1).trans h))
 have C5:Hid (WlC ⟨a0,a1,some ⟨T,0,none⟩,a3,a4,c0,c1,F,c3,c4⟩ (setP W I [⟨10,D,0,0,bb⟩])):=by
  obtain⟨hK,hlen⟩:=HK.out;exact⟨hC.out.s0,hC.out.s1,⟨(fun e=>by cases e),by show (W.ps.set I _).length<=_;rw[List.length_set,hlen];exact l4,l5⟩,hC.out.s3,hC.out.s4⟩
 clear b4 o0 B4 K4 K9 OW i8 q5 gc gf p0 p1 p2 p3 p4 pf t5 q0 q1 q2 q3 q4 qf ql i7;obtain⟨q0,q1,q2,q3,q4,qf,ql⟩:=zaq V5.out
 go_wp2_with fail
 refine ye (DS.out T F _ C5.out P5.out) ?_;rintro e J ⟨f0,f1,f2,f3,f4,g0,g1,g2,g3,g4,rfl,hb,hz,l8,m7⟩;have e7:Hid (Below w5.heap.size w5 J):=hb;have Z6:Hid (zgb J ⟨f0,f1,f2,f3,f4,g0,g1,g2,g3,g4⟩ Z):=hz;have c7:Hid (WlC ⟨f0,f1,f2,f3,f4,g0,g1,g2,g3,g4⟩ Z):=l8;have j3:Hid (zgE (fun b=>b<w5.heap.size) J ⟨f0,f1,f2,f3,f4,g0,g1,g2,g3,g4⟩ Z):=m7;clear l8 m7 hb hz P5 C5 DS q0 q1 q2 q3 q4 qf ql d1 d2 d3 HK l4 l5 t1 m3 l9 n3
 go_upto_region 8 with fail
 obtain⟨w7,d9⟩:∃ w7,J.alloc (.cells #[.slice f0 n g0,.slice f1 n g1,.slice f2 n g2,.slice f3 n g3,.slice f4 m4 g4] 28)=w7:=⟨_,rfl⟩;rw[d9];have b0:Hid (Below J.heap.size J w7):=by rw[<- d9];exact zaa _ _
 have e9:Hid (w7.heap[J.heap.size]?=some (.cells #[.slice f0 n g0,.slice f1 n g1,.slice f2 n g2,.slice f3 n g3,.slice f4 m4 g4] 28 (0,0))):=by rw[<- d9];exact yK _ _
 have i5:Hid (Below w5.heap.size w5 w7):=e7.out.trans (b0.out.mono e7.out.size);have i4:Hid (Below w.heap.size w w7):=B5.out.trans (i5.out.mono B5.out.size);clear d9;obtain⟨q0,q1,q2,q3,q4,qf,ql⟩:=zaq e9.out;obtain⟨rb,ro,A,er,r0,r1,r2,r3,hr⟩:=(Z6.out.below b0.out).rs I (by rw[hZ.out.1];exact h4);dsimp only at er;subst er;obtain⟨tb,C0,et,t0⟩:=hr.2.2.2 TL (by rw[hZ.out.2.1];omega);rw[hZ.out.2.1,et] at r3;rw[hZ.out.2.2] at t0;clear r0 r1 r2 hr et;have k9:IntKind.i64.wrap (TL:Int)=TL:=by rw[yH];omega
 have l1:IntKind.i64.wrap ((TL:Int)+1-1)=TL:=by rw[yH];omega
 have l2:(TL:Int)<(TL:Int)+1:=by omega
 have l3:(0:Int)<=TL:=by omega
 go_big_quiet (fail)
 obtain⟨w8,h8⟩:∃ w8,w7.drewN nq=w8:=⟨_,rfl⟩;rw[h8];have a6:Hid (Below w7.heap.size w7 w8):=by rw[<- h8];exact zcZ (yk _ _) _
 have e5:Hid (Below w.heap.size w w8):=i4.out.trans (a6.out.mono i4.out.size);have K8:Hid (w8.heap[w.heap.size]?=some (.cells #[.slice a0 n c0,.slice a1 n c1,.slice a2 n c2,.slice a3 n c3,.slice a4 n4 c4] 28 (0,0))):=zav (zav K5.out i5.out) a6.out;have j2:Hid _:=zav e9.out a6.out;have Z8:Hid (zgb w8 _ Z):=(Z6.out.below b0.out).below a6.out;clear h8 q0 q1 q2 q3 q4 qf ql r3 t0 k9 l1 l2 l3 e9;obtain⟨q0,q1,q2,q3,q4,qf,ql⟩:=zaq j2.out;obtain⟨p0,p1,p2,p3,p4,pf,B7⟩:=zaq K8.out;obtain⟨gr,j8,Pf,Qf,Gf,j6,j7,o4,n6,k8⟩:=j3.out;have t9:=o4.lt;have j4:Hid (St (fun b=>(b<w5.heap.size\/b=J.heap.size)\/b=gr) (fun w=>QuX w j8 Qf Gf Z) w7):=fun V' ho=>(k8.grow (Y:=fun b=>(b<w5.heap.size\/b=J.heap.size)\/b=gr) (zar.of_below b0.out) (fun b hb hy=>by rcases hy with (h|h)|h;exact .inl h;omega;exact .inr h) V' ho).2.2.2.2.2;have q8:Hid (¬ gr<w5.heap.size):=n6;dsimp only at j6 j7;subst j6;subst j7;clear k8 o4 n6;obtain⟨u0,uM⟩:=j4.out w8 (zar.of_below a6.out) D (by rw[a8.out.2.1];exact b3);obtain⟨wb,wo,C1,C2,ew,v0,vS,vM⟩:=(hW.out.qs.below e5.out) D (by rw[hQ.out.2.2.2.2.1];exact b3);dsimp only at ew;subst ew;have k6:(que Z D).length=U+1:=hQ.out.2.1;have g9:ml (que Z D) U=⟨I,G⟩:=hQ.out.2.2.1;rw[k6] at u0;rw[hQ.out.2.2.2.1] at v0;obtain⟨mb,mo,em,m0,m1,mG⟩:=uM U (by rw[k6];omega);rw[g9] at m0 m1 mG;dsimp only at m0 m1 mG;rw[hG.out.1] at m1;rw[em] at u0;have v5:Hid _:=em;generalize A3:(Qf D).2=qc at *;generalize y8:(Gf D U).2=b2 at *;obtain⟨gb,go,eg,c9,_⟩:=mG 0 (by rw[hG.out.1];omega);have q6:Hid _:=eg
 rw[eg] at m1 mG;clear em eg uM;rw[hG.out.2.1,Nat.zero_mul,Nat.add_zero] at c9;have q9:Hid (zaF w8 (some ⟨gb,go,none⟩) G):=mG;have x1:IntKind.i64.wrap ((U:Int)+1-1)=U:=by rw[yH];omega
 have x2:IntKind.i64.wrap ((U:Int)+1)=(U:Int)+1:=by rw[yH];omega
 have x3:IntKind.i64.wrap ((bb:Int)+1)=(bb:Int)+1:=by rw[yH];omega
 have x4:IntKind.i64.wrap (U:Int)=U:=by rw[yH];omega
 have x5:(U:Int)<(U:Int)+1:=by omega
 have x6:(0:Int)<(bb:Int)+1:=by omega
 have y6:gb<w8.heap.size:=yd _ _ c9;have x8:J.heap.size<w8.heap.size:=ql;have A5:wb<w8.heap.size:=yd _ _ v0
 go_upto_region 12 with fail
 obtain⟨w9,e0⟩:∃ w9,w8.alloc (.cells #[.int .i64 I,.slice (some ⟨gb,go,none⟩) (bb+1) b2] 53)=w9:=⟨_,rfl⟩;rw[e0];have O:Hid (Below w8.heap.size w8 w9):=by rw[<- e0];exact zaa _ _
 have j0:Hid (w9.heap[w8.heap.size]?=some (.cells #[.int .i64 I,.slice (some ⟨gb,go,none⟩) (bb+1) b2] 53 (0,0))):=by rw[<- e0];exact yK _ _
 clear e0;obtain⟨y0,y1,yl⟩:=zbg j0.out;replace p1:=zab p1 O.out;replace p3:=zab p3 O.out;replace v0:=zab v0 O.out;replace c9:=zab c9 O.out;clear q0 q1 q2 q3 q4 qf p0 p2 p4 pf m0 m1 u0
 go_wp2_with fail
 have e6:Hid (Below w.heap.size w w9):=e5.out.trans (O.out.mono e5.out.size);obtain⟨vb,vo,A,ev,s0,s1,_,_,hv⟩:=(hW.out.rs.below e6.out) I (by rw[hQ.out.2.2.2.2.2];exact h4);dsimp only at ev;subst ev;rw[k0.out] at s1;have HV:Hid (zdd w9 A (rl W.rs I)):=hv;clear hv
 go_loopg [131] bb (fun g s131 wr=>∃ i:Nat,i<=bb/\bb-i<=g/\s131=.int .i64 i/\Hid (Below w9.heap.size w9 wr))
 case atStart=>exact⟨0,by omega,by omega,rfl,yk _ _⟩
 case round =>
  obtain⟨i,hi,y7,rfl,M⟩:=hrel;have A4:w9.heap.size<=wr.heap.size:=M.out.size;by_cases h6:i<bb
  ·have m5:(i:Int)<(bb:Int):=(by omega);have v3:(i:Int)<16:=(by omega);obtain⟨b8,h7,eh,d7,e3⟩:=(HV.out.below M.out).2.1 i (by rw[k0.out];omega);rw[eh] at s1;have h9:=zab p1 M.out;replace s0:=zab s0 M.out;replace s1:=zab s1 M.out;have o8:=zab y1 M.out;obtain⟨v6,w0,r5,cg,_⟩:=(q9.out.below (O.out.trans (M.out.mono O.out.size))) (i+1) (by rw[hG.out.1];omega);cases r5;rw[hG.out.2.2 i h6] at cg;have b5:Hid (∀ V,Below wr.heap.size wr V->Calls _ _ _ _ _):=fun V hV=>DF.out A.a0 A.c0 i _ _ V h6 rfl rfl ((HV.out.below M.out).1.below hV);generalize ((rl W.rs I).hs.getD i (0,0)).1=X1 at d7 b5;generalize ((rl W.rs I).hs.getD i (0,0)).2=X2 at e3 b5;obtain⟨SL,r8⟩:∃ m,(rl W.rs I).s.length=m:=⟨_,rfl⟩;rw[r8] at s0 b5;have B6:vb<wr.heap.size:=yd _ _ s0;have A9:b8<wr.heap.size:=yd _ _ d7;have A8:gb<wr.heap.size:=yd _ _ cg;have z1:¬ wr.heap.size=w.heap.size:=(by omega);have z2:¬ w.heap.size=wr.heap.size:=(by omega);have z3:¬ wr.heap.size=vb:=(by omega);have z4:¬ vb=wr.heap.size:=(by omega);have z5:¬ wr.heap.size=b8:=(by omega);have z6:¬ b8=wr.heap.size:=(by omega);generalize MK i=MM at *
   go_upto_region 17 with fail
   go_cut [15,16,131] from 131 to 168 (fun s15 s16 s131 wx=>∃ bq:Nat,s15=.pointer (some ⟨bq,0,none⟩)/\s16=.int .i64 0/\s131=.int .i64 (i:Int)/\wx.cell? ⟨bq,3,none⟩=some (.int .i64 MM)/\Hid (Below wr.heap.size wr wx))
   case first =>
    go_region_held3 (fun a7=>a7.cell? ⟨w.heap.size,1,none⟩=some (.slice (some ⟨vb,vo,none⟩) n c1)/\a7.cell? ⟨vb,vo+I*4,none⟩=some (.slice A.a0 SL A.c0)/\a7.cell? ⟨vb,vo+I*4+1,none⟩=some (.slice (some ⟨b8,h7,none⟩) 16 A.c1)/\a7.cell? ⟨b8,h7+i*2,none⟩=some (.int .i64 X1)/\a7.cell? ⟨b8,h7+i*2+1,none⟩=some (.int .i64 X2)) (go_keep) (first|(go_at_call 14;refine ye (b5.out wr.drew (yk _ _).drew) ?_;rintro e e1 ⟨x,ka,kl,kc,rfl,b7,m6⟩;have B3:Hid (Below wr.heap.size wr e1):=(yk wr.heap.size wr).drew.trans (b7.mono (by simp));have n7:=zab h9 B3.out;have t3:=zab s0 B3.out;have t4:=zab s1 B3.out;have n8:=zab d7 B3.out;have n9:=zab e3 B3.out;clear b7)|(go_at_call 14;refine ye (b5.out (wr.alloc (.cells #[.bool false,.int .i64 0,.int .i64 0,.int .i64 0,.int .i64 0,.slice none 0 0,.int .i64 0,.bool false] 57)).drew (zaa wr _).drew) ?_;rintro e e1 ⟨x,ka,kl,kc,rfl,b7,m6⟩;have B3:Hid (Below wr.heap.size wr e1):=(zaa wr _).drew.trans (b7.mono (by simp));have n7:=zab h9 B3.out;have t3:=zab s0 B3.out;have t4:=zab s1 B3.out;have n8:=zab d7 B3.out;have n9:=zab e3 B3.out;have XA:Hid (e1.heap[wr.heap.size]?=some (.cells #[.bool false,.int .i64 0,.int .i64 0,.int .i64 0,.int .i64 0,.slice none 0 0,.int .i64 0,.bool false] 57 (0,0))):=(b7.block _ (by simp)).trans (yK wr _);obtain⟨x0,C3,C4,C6,C7,C8,C9,D0,xf,xl⟩:=znM XA.out;clear b7))
    all_goals
     go_wp2_with fail
     go_meet
     case rel =>
      have zz:=B3.out.size;subst m6;refine⟨_,rfl,rfl,rfl,by go_simp,?_⟩
      first
       |(have A6:=XA.out
         exact((((((((B3.out.setCell (yj _) _).setCell (yj _) _).setCell (yj _) _).setCell (yj _) _).setCell (yj _) _).setCell (yj _) _).setCell (yj _) _).setCell (yj _) _))
       | exact B3.out.alloc B3.out.size _
   case rest =>
    obtain⟨bq,rfl,rfl,rfl,hm,HX⟩:=hcut;have y3:IntKind.i64.wrap ((i:Int)+1)=(i:Int)+1:=(by rw[yH];omega);have y4:(i:Int)+1<(bb:Int)+1:=(by omega);replace o8:=zab o8 HX.out;replace cg:=zab cg HX.out;clear h9 s0 s1 d7 e3 b5
    go_wp2_with fail
    go_big_quiet (fail)
    go_wp2_with fail
    go_roundg (bb-(i+1))
    case measure=>omega
    case rel=>exact⟨i+1,by omega,by omega,by go_num,zcZ (M.out.trans (HX.out.mono M.out.size)) _⟩
  ·have:i=bb:=(by omega);subst this;have hz:¬ ((i:Int)<(i:Int)):=(by omega);have v4:Hid (Below J.heap.size J wr):=((b0.out.trans (a6.out.mono b0.out.size)).trans (O.out.mono (by have:=b0.out.size;have:=a6.out.size;omega))).trans (M.out.mono (by have:=b0.out.size;have:=a6.out.size;have:=O.out.size;omega));have i6:Hid (Below w7.heap.size w7 wr):=(a6.out.trans (O.out.mono a6.out.size)).trans (M.out.mono (by have:=a6.out.size;have:=O.out.size;omega));obtain⟨gs,e2,⟨x7,v7⟩,v8,v9,_,m9⟩:=((j3.out.grow (Y:=fun b=>b<w5.heap.size\/b=J.heap.size) (zar.of_below b0.out) (fun b hb hy=>by rcases hy with h|h;exact h;omega)).grow (Y:=fun b=>b<w5.heap.size\/b=J.heap.size) (zar.of_below i6.out) (fun _ _ h=>h)).nil a8.out.1 (k:=D) (by rw[a8.out.2.1];exact b3);dsimp only at e2;cases e2;have i9:Hid _:=m9;have c8:Hid _:=zav j2.out (O.out.trans (M.out.mono O.out.size));obtain⟨q0,q1,q2,q3,q4,qf,B8⟩:=zaq c8.out;have c6:w.heap.size<=J.heap.size:=(by have:=B5.out.size;have:=e7.out.size;omega);clear m9 p1 p3 v0 c9 s0 s1 y0 y1 yl x1 x2 x3 x4 x5 x6
   go_wp2_with fail
   obtain⟨V9,b6⟩:∃ V9,wr.setCell ⟨gr,D,none⟩ (.slice none 0 0)=V9:=⟨_,rfl⟩;rw[b6];have g5:Hid _:=i9.out;rw[b6] at g5;have o9:Hid (Below w.heap.size w wr):=e6.out.trans (M.out.mono e6.out.size);have r9:w.heap.size<=gr:=(by have:=B5.out.size;have:=q8.out;omega);have K9:Hid _:=(ys wr ⟨gr,D,none⟩ (.slice none 0 0) J.heap.size (by show J.heap.size≠gr;omega)).trans c8.out;rw[b6] at K9;have b9:Below w.heap.size w V9:=(by rw[<- b6];exact o9.out.setCell r9 _);have HZ:=a8.out.1;have RZ:zan { Z with ps:=Z.ps.set D [] }:=HZ.prog (by rw[a8.out.2.1];exact b3) (Nat.zero_le _);have M0:Hid (zqb w V9 J.heap.size D Z 0 _ { Z with ps:=Z.ps.set D [] } V9):=⟨b9,zar.refl _ _,by have h:=K9.out;show _=some (Obj.cells #[_,_,Value.slice _ (Z.ps.set D []).length _,_,_] _ _);rw[List.length_set,HZ.lp,HZ.lr,HZ.lq,a8.out.2.1];first|exact h|(rw[q7.out];exact h),(fun V' ho=>g5.out V' (ho.mono (fun c h=>.inr h))),⟨c7.out.s0,c7.out.s1,by have h:=c7.out.s2;show SlA _ (Z.ps.set D []).length _;rw[List.length_set];exact h,c7.out.s3,c7.out.s4⟩,RZ,rfl,(zlO (by rw[HZ.lp,a8.out.2.1];exact b3)).trans (yb rfl),rfl,fun _ h=>by omega⟩
   have e4:Hid (V9.heap[w8.heap.size]?=some (.cells #[.int .i64 I,.slice (some ⟨gb,go,none⟩) (i+1) b2] 53 (0,0))):=by
    rw[<- b6];exact(ys wr ⟨gr,D,none⟩ (.slice none 0 0) w8.heap.size (by show w8.heap.size≠gr;omega)).trans (zav j0.out M.out)
   have r4:Hid (∀ V', zar (fun c=>c=J.heap.size) V9 V' -> QuX V' j8 Qf Gf Z):=fun V' ho=>j4.out V' (((zar.of_below i6.out).trans (by rw[<- b6];exact zar.set _ _ (.inr rfl))).trans (ho.mono (fun c h=>.inl (.inr h))))
   go_loopg [175] (U+1) (fun g s175 wr=>∃ (j:Nat) (A:WA) (Y:Wl),j<=U+1/\U+1-j<=g/\s175=.int .i64 j/\Hid (zqb w V9 J.heap.size D Z j A Y wr))
   case atStart=>exact⟨0,_,_,by omega,by omega,rfl,M0.out⟩
   case round =>
    obtain⟨j,A2,Y,hj,y9,rfl,HM⟩:=hrel;clear M0 g5 i9 K9 c8 q0 q1 q2 q3 q4 qf;have QL:Hid ((que Z D).length=U+1):=hQ.out.2.1;obtain⟨q0,q1,q2,q3,q4,qf,t8⟩:=zaq HM.out.box;by_cases h6:j<U+1
    ·have m5:(j:Int)<(U:Int)+1:=(by omega);have g6:Hid _:=zwC HM.out.rt (k:=D) (by rw[HM.out.fs];exact a8.out.2.2) (by rw[HM.out.qu,List.length_drop,QL.out];omega);have e8:Hid _:=p9.out (fun c=>c=J.heap.size) A2 Y wr (fun c h=>by rw[h];exact t8) HM.out.rt HM.out.wc HM.out.wl;dsimp only[wlV] at e8
     go_wp2_with fail
     refine ye e8.out ?_;rintro e wx ⟨B,rfl,d5,l7,n5⟩;have BX:Hid (Below wr.heap.size wr wx):=d5;have WX:Hid (zgc (fun c=>c=J.heap.size) wx B (zaX Y D false)):=n5;have CX:Hid (WlC B (zaX Y D false)):=l7;have FN:Hid (∀ wy,zbK Y D false=0->wy.heap[J.heap.size]?=some (.cells #[.slice B.a0 (zaX Y D false).fs.length B.c0,.slice B.a1 (zaX Y D false).rs.length B.c1,.slice B.a2 (zaX Y D false).ps.length B.c2,.slice B.a3 (zaX Y D false).qs.length B.c3,.slice B.a4 (zaX Y D false).pt.length B.c4] 28 (0,0))->zar (fun c=>c=J.heap.size) wx wy->Below w.heap.size w wy->zqb w V9 J.heap.size D Z (j+1) B (zaX Y D false) wy):=fun wy h0 h1 h2 h3=>HM.out.next c6 h0 BX.out WX.out CX.out h1 h2 h3;have KX:Hid _:=zav HM.out.box BX.out;have p5:Hid (Below w.heap.size w wx):=HM.out.bel.trans (BX.out.mono HM.out.bel.size);clear d5 l7 n5 e8 q0 q1 q2 q3 q4 qf;obtain⟨q0,q1,q2,q3,q4,qf,B9⟩:=zaq KX.out;obtain⟨Yn,b1⟩:∃ Yn,zaX Y D false=Yn:=⟨_,rfl⟩;rw[b1] at FN;obtain⟨E,hE⟩:∃ E,zbK Y D false=E:=⟨_,rfl⟩;rw[hE] at g6 FN;rw[b1,hE];clear b1 hE WX CX;have FB:Hid (∀ (u0 u1 u2 u3 u4:Value),Below w.heap.size w (((((wx.setCell ⟨J.heap.size,0,none⟩ u0).setCell ⟨J.heap.size,1,none⟩ u1).setCell ⟨J.heap.size,2,none⟩ u2).setCell ⟨J.heap.size,3,none⟩ u3).setCell ⟨J.heap.size,4,none⟩ u4)):=fun _ _ _ _ _=>((((p5.out.setCell c6 _).setCell c6 _).setCell c6 _).setCell c6 _).setCell c6 _;by_cases hE:E=0
     ·subst hE;have F2:Hid _:=FN.out _ rfl (ziA (u0:=.slice B.a0 Yn.fs.length B.c0) (u1:=.slice B.a1 Yn.rs.length B.c1) (u2:=.slice B.a2 Yn.ps.length B.c2) (u3:=.slice B.a3 Yn.qs.length B.c3) (u4:=.slice B.a4 Yn.pt.length B.c4) KX.out) (ziJ _ _ _ _ _ _) (FB.out _ _ _ _ _);clear FN g6 HM
      go_wp2_with fail
      go_roundg (U+1-(j+1))
      case measure=>omega
      case rel=>exact⟨j+1,B,Yn,by omega,by omega,by go_num,F2.out⟩
     ·have hz:(E == 0)=false:=(by simp[hE]);have A7:(E != 0)=true:=(by simp[hE]);clear FN HM;rcases(g6.out.resolve_left hE) with rfl|rfl
      ·go_wp2
       go_ret;exact⟨rfl,FB.out _ _ _ _ _⟩
      ·go_wp2
       go_ret;exact⟨rfl,FB.out _ _ _ _ _⟩
    ·have hz:¬ ((j:Int)<(U:Int)+1):=(by omega);have t2:j=U+1:=(by omega);have b1:Y.fs.length=n:=(by rw[HM.out.fs];exact a8.out.2.1);have g8:(rl Y.rs D).i=G:=(by have h:=HM.out.inn U t2;rw[g9] at h;exact h);have k7:(qu Y.qs D).length=0:=(by have h:=HM.out.qu;have e:que Y D=qu Y.qs D:=rfl;rw[<- e,h,List.length_drop,QL.out];omega);obtain⟨o6,o7,R2,r7,_,_,n2,_,m8⟩:=HM.out.wl.at.rs D (by rw[HM.out.rt.lr,b1];exact b3);obtain⟨o1,o2,t6,t7,r6,z0,_,_⟩:=HM.out.wl.at.qs D (by rw[HM.out.rt.lq,b1];exact b3);rw[k7] at z0;have p6:Hid (zaF wr R2.a2 G):=(by have h:=m8.2.2.1;rw[g8] at h;exact h);rw[g8,hG.out.1] at n2
     have p7:Hid (zaF wr (some ⟨gb,go,none⟩) G):=by
      obtain⟨_,_,_,_,_,h⟩:=(r4.out wr HM.out.off D (by rw[a8.out.2.1];exact b3)).2 U (by rw[QL.out];omega);rw[g9,q6.out] at h;exact h
     have j1:Hid _:=(HM.out.off.block _ (zau e4.out) (by show ¬ w8.heap.size=J.heap.size;omega)).trans e4.out;obtain⟨y0,y1,yl⟩:=zbg j1.out;rw[HM.out.rt.lr,b1,r7] at q1;rw[HM.out.rt.lq,b1,r6] at q3
     have p8:Hid (∀ V,Below wr.heap.size wr V->yL 15 #[.agg #[.slice R2.a2 (i+1) R2.c2],.agg #[.slice (some ⟨gb,go,none⟩) (i+1) b2]] V fun e w' => e=.returned (.bool true)/\Below V.heap.size V w'):=fun V hV=>by
      have h:=DG.out R2.a2 (some ⟨gb,go,none⟩) R2.c2 b2 G V rfl (p6.out.below hV) (p7.out.below hV);rw[hG.out.1] at h;exact h
     have BM:Hid (Below w.heap.size w wr):=HM.out.bel;clear HM q0 q2 q4 qf m8 g8 k7 b1
     go_wp2_with fail
     go_region_held3 (fun a7=>a7.cell? ⟨J.heap.size,1,none⟩=some (.slice (some ⟨o6,o7,none⟩) n A2.c1)/\a7.cell? ⟨o6,o7+D*4+2,none⟩=some (.slice R2.a2 (i+1) R2.c2)/\a7.cell? ⟨w8.heap.size,1,none⟩=some (.slice (some ⟨gb,go,none⟩) (i+1) b2)/\a7.cell? ⟨J.heap.size,3,none⟩=some (.slice (some ⟨o1,o2,none⟩) n A2.c3)/\a7.cell? ⟨o1,o2+D,none⟩=some (.slice t6 0 t7)) (go_keep) (first|(go_at_call 15;refine ye (p8.out wr.drew (yk _ _).drew) ?_;rintro e wx ⟨rfl,d5⟩;have BX:Hid (Below wr.heap.size wr wx):=(yk _ _).drew.trans d5;have k1:=zab q1 BX.out;have k2:=zab n2 BX.out;have k3:=zab y1 BX.out;have k4:=zab q3 BX.out;have k5:=zab z0 BX.out;clear d5))
     go_wp2
     go_ret;exact⟨rfl,BM.out.trans (BX.out.mono BM.out.size)⟩
theorem zst(R:Rl)(m:Nat):(zaW R m).length=m+1/\(cl (zaW R m) 0).n=m/\∀ i,i<m->(cl (zaW R m) (i+1)).n=(nd R.s (hd R i).1.toNat).m:=by
 refine⟨by unfold zaW;simp,rfl,fun i hi=>?_⟩;unfold cl zaW;rw[List.getD_cons_succ,zae _ _ (by simpa using hi)];simp
theorem zmW(hN:zoU)(hK:zgG)(hR:zld)(hT:zgF)(A:WA)(W:Wl)(k a b:Int)(w:World)(hB:zrG W)(hC:WlC A W)(hW:zgb w A W) :
  yL 3 #[wlV A W,.int .i64 k,.int .i64 a,.int .i64 b] w fun e w' => e=.returned (.bool true)/\Below w.heap.size w w' := by
 obtain⟨a0,a1,a2,a3,a4,c0,c1,c2,c3,c4⟩:=A;have DT:Hid (∀ V:World,yL 9 #[] V fun e w' => e=.returned (.bool true)/\Below V.heap.size V w'):=fun V=>zuK hN hR V;by_cases hE:zby W=0
 ·have H:=zcM.1 hE;by_cases h0:W.fs.length=0
  ·exact zfW _ _ _ _ _ (zby W) k a b a0 a1 a2 a3 a4 c0 c1 c2 c3 c4 w (Or.inr ⟨hE,h0⟩) DT (fun V hV=>zlp hK hB rfl hC (hW.below hV))
  ·show yL _ #[.agg #[.slice a0 W.fs.length c0,.slice a1 W.rs.length c1,.slice a2 W.ps.length c2,.slice a3 W.qs.length c3,.slice a4 W.pt.length c4],_,_,_] w _;rw[H.lr,H.lp,H.lq];have a8:=H.fs.few;obtain⟨D,J,Z⟩:=zsd k W.fs.length (by omega) (by omega);obtain⟨E,U,a5⟩:=zsd a W.fs.length (by omega) (by omega);obtain⟨F,d8,a6⟩:=zsd b 9 (by omega) (by omega);have DK:Hid (∀ V,Below w.heap.size w V->Calls _ _ _ _ _):=fun V hV=>checkN hK H rfl rfl hC (hW.below hV);obtain⟨K,a7,b1⟩:=hW.ps.row hC.s2;have b3:=hC.s2;rw[H.lp] at b1 b3;have DC:=fun V hV=>zsu (V:=V) (by omega) a8 b3 b1 (fun i hi=>by obtain⟨pa,pc,e,_⟩:=a7 i (by rw[H.lp];exact hi);exact⟨_,_,_,e⟩) hV;have H2:=H.setP (k:=D) (p:=[⟨10,E,0,0,F⟩]) (by simp) J;by_cases I:zbK (setP W D [⟨10,E,0,0,F⟩]) D true=0
   ·have ht:=zwZ H J I;have M:=zjA H2 ((D:Int),true);unfold zjz at M;dsimp only at M;rw[yb I] at M;obtain⟨d6,c6,_,d7⟩:=zay (H.rs D J);have hp:prg (setP W D [⟨10,E,0,0,F⟩]) D=[⟨10,E,0,0,F⟩]:=(zlO (by rw[H.lp];exact J)).trans (yb rfl);obtain⟨TT,b2⟩:∃ T,toldOf (zdh (zbb (setP W D [⟨10,E,0,0,F⟩]) D true) D ⟨10,E,0,0,F⟩)=T:=⟨_,rfl⟩;rw[b2] at ht;have hL:(rlm (zaX (setP W D [⟨10,E,0,0,F⟩]) D true) D).t.length=(rlm W D).t.length+1:=by rw[ht];simp
    have hG:(rlm (zaX (setP W D [⟨10,E,0,0,F⟩]) D true) D).t.getD (rlm W D).t.length 0=TT:=by
     rw[ht,zae _ _ (by simp)];simp
    by_cases b0:TT=0
    ·subst b0;obtain⟨s1,s2,s3,s4,s5⟩:=ztr I hp U b2;have b4:que (zaX (setP W D [⟨10,E,0,0,F⟩]) D true) E=que W E++[⟨D,zaW (rlm W D) F⟩]:=s1;have b5:∀ i:Nat,i<F->zaC (rlm W D).s (hd (rlm W D) i).1 (hd (rlm W D) i).2=0:=s2;obtain⟨a9,b6,b7⟩:=zst (rlm W D) F;have d9:=(zbs.1 (H.qs E U)).1
     exact ztq (zaX (setP W D [⟨10,E,0,0,F⟩]) D true) _ (rlm W D).t.length (que W E).length (zaW (rlm W D) F) (fun i=>(nd (rlm W D).s (hd (rlm W D) i).1.toNat).m) W W.fs.length W.pt.length a0 a1 a2 a3 a4 c0 c1 c2 c3 c4 w DT DK k a b D E F Z a5 a6 K DC (by omega) J U a8 hW hC ⟨a7,H.lp⟩
      (fun gw O V hc hw=>by
       have h:=zlW (fun _=>False) ⟨a0,a1,some ⟨gw,0,none⟩,a3,a4,c0,c1,O,c3,c4⟩ (setP W D [⟨10,E,0,0,F⟩]) D true V (fun _ h=>h.elim) (zcK H2) hc (zuO hw);dsimp only[wlV] at h;rw[H2.lr,H2.lp,H2.lq] at h;refine ye h ?_;rintro e w' ⟨⟨f0,f1,f2,f3,f4,g0,g1,g2,g3,g4⟩,he,hb,c9,d5,d4⟩;refine⟨f0,f1,f2,f3,f4,g0,g1,g2,g3,g4,?_,hb,d5.at,c9,d4 I⟩;rw[he];dsimp only[wlV];rw[M.1.lr,M.1.lp,M.1.lq,M.2,I]
       rfl)
      ⟨M.1.lr.trans M.2,hL,hG⟩ (by omega) ⟨M.1.lq.trans M.2,by show (que _ E).length=_;rw[b4];simp,by show ml (que _ E) _=_;rw[b4];exact zox _ _,rfl,H.lq,H.lr⟩ (by omega) (by omega) ⟨a9,b6,b7⟩ c6 ⟨M.1,M.2,by rw[s5];exact s4⟩ rfl
      (fun X A Y V hX HY c7 c8=>hT X A Y E false V hX (zcK HY) c7 c8)
      (fun ga b8 gc b9 HH V e h1 h2=>by
       subst e;have hg:=zcA (zbx.2 (zgs (R:=rlm W D) s3 b5));refine(zsY ga b8 gc b9 _ _ V (by rw[a9];omega) hg.2 h1 h2).mono ?_;rintro e w' ⟨r,rfl,hb,hr⟩;rw[hr.2 rfl];exact⟨rfl,hb⟩)
      (fun sa sc i x1 x2 V hi e1 e2 hV=>by
       subst e1 e2
       have hf:zaC (rl W.rs D).s ((rl W.rs D).hs.getD i (0,0)).1 ((rl W.rs D).hs.getD i (0,0)).2=0:=by
        have h:=b5 i hi;unfold hd at h;rw[yi] at h;exact h
       refine(zeC (rl W.rs D).s _ _ sa sc V d6 hV).mono ?_;rintro e w' ⟨x,ka,kl,kc,he,hb,h0,_⟩;rw[hf] at he;refine⟨x,ka,kl,kc,he,hb,?_⟩;rw[h0 hf];show _=(nd (rlm W D).s (hd (rlm W D) (i:Int)).1.toNat).m;unfold hd;rw[yi]
       rfl)
    ·exact zts (zaX (setP W D [⟨10,E,0,0,F⟩]) D true) _ (rlm W D).t.length TT W W.fs.length W.pt.length a0 a1 a2 a3 a4 c0 c1 c2 c3 c4 w DT DK k a b D E F Z a5 a6 K DC (by omega) J U a8 hW hC ⟨a7,H.lp⟩ (fun gw O V hc hw=>(zAH hT (fun _=>False) I rfl rfl rfl rfl (fun _ h=>h.elim) hc (zuO hw)).mono fun e w' ⟨f0,f1,f2,f3,f4,g0,g1,g2,g3,g4,x1,x2,x3,x4⟩=>⟨f0,f1,f2,f3,f4,g0,g1,g2,g3,g4,x1,x2,x4.at⟩) ⟨M.1.lr.trans M.2,hL,hG⟩ (by omega) b0
   ·exact zwn _ W W.fs.length W.pt.length a0 a1 a2 a3 a4 c0 c1 c2 c3 c4 w DT DK k a b D E F Z a5 a6 K DC (by omega) J U a8 hW hC ⟨a7,H.lp⟩ (fun gw O V hc hw=>zyI hT (fun _=>False) H2 rfl I rfl rfl (fun _ h=>h.elim) hc (zuO hw)) I
 ·exact zfW _ _ _ _ _ (zby W) k a b a0 a1 a2 a3 a4 c0 c1 c2 c3 c4 w (Or.inl hE) DT (fun V hV=>zlp hK hB rfl hC (hW.below hV))
variable {H:Type} {enc:TypeId × Value->H} {w:World} {base:Nat} {spare:Nat->Bool} {held:Bool}
theorem zwm{α:Type}(z:α)(len:Nat)(P:Nat->α->Prop)(h:∀ i,i<len->∃ x,P i x):∃ S:List α,S.length=len/\∀ i,i<len->P i (S.getD i z):=by
 induction len with
 | zero=>exact⟨[],rfl,fun i hi=>absurd hi (yw _)⟩
 | succ n I =>
  obtain⟨S,hl,E⟩:=I (fun i hi=>h i (by omega));obtain⟨x,F⟩:=h n (by omega);refine⟨S++[x],by simp[hl],fun i hi=>?_⟩;by_cases e:i=n
  ·subst e;rw[zae _ _ (by simp[hl])];simpa [hl] using F
  ·have D:i<S.length:=(by omega);have:=E i (by omega);rw[zae _ _ D] at this;rw[zae _ _ (by simp;omega),List.getElem_append_left D];exact this
theorem zfr{α:Type}(z:α)(Q:List Value->α->Prop){tS tE size fuel:Nat}{cs:List Value}{x:DataW H × List MemPlace}(hu:Tryz.prog.underlying tS=some (.slice tE))(hc:Tryz.prog.cellsOf tE=size)(hs:0<size)
  (hE:∀ (n:Nat) (E:List Value) (x' : DataW H × List MemPlace),DataW.trod enc Tryz.prog w base spare held n tE E=some x' -> ∃ y,Q E y) (h:DataW.trod enc Tryz.prog w base spare held fuel tS cs=some x) :
  ∃ a c,∃ S:List α,cs=[.slice a S.length c]/\SlA a S.length c/\∀ i,i<S.length->∃ b o E,a=some ⟨b,o,none⟩/\(∀ j,j<size->w.cell? ⟨b,o+i*size+j,none⟩=E[j]?)/\Q E (S.getD i z):=by
 rcases Go.Deep.open_slice hu h with ⟨rfl,_⟩ |⟨a,len,cap,m,n,D,Pl,rfl,_,hl,hm,a6,_,hx⟩
 ·exact⟨none,0,[],rfl,⟨fun _=>rfl,by simp,by omega⟩,fun i hi=>absurd hi (yw _)⟩
 ·have a8:len<=m:=by rw[a6];split <;> omega
  have M:cap<=9223372036854775807:=by unfold maxLen at hm;omega
  obtain⟨T,U,O⟩:=a;by_cases h0:len=0
  ·subst h0;exact⟨_,cap,[],rfl,⟨(fun e=>by cases e),by simp,M⟩,fun i hi=>absurd hi (yw _)⟩
  ·have a7:O=none:=by
    obtain⟨E,F,ht⟩:=hx 0 (by omega);rw[hc] at F;obtain⟨_,a5,I⟩:=World.cells?_some F;have h1:=I 0 hs;rw[List.getElem?_eq_getElem (by omega)] at h1;simpa [Addr.add] using World.cell?_spot h1
   subst a7
   obtain⟨S,J,Z⟩:=zwm z len (fun i y=>∃ E,(∀ j,j<size->w.cell? ⟨T,U+i*size+j,none⟩=E[j]?)/\Q E y) (fun i hi=>by
    obtain⟨E,F,ht⟩:=hx i (by omega);rw[hc] at F;obtain⟨_,a5,I⟩:=World.cells?_some F;obtain⟨y,hy⟩:=hE _ _ _ ht;refine⟨y,E,fun j hj=>?_,hy⟩;have h1:=I j hj
    rwa [add_plain,add_plain] at h1)
   refine⟨some ⟨T,U,none⟩,cap,S,by rw[J],⟨(fun e=>by cases e),by rw[J];exact hl,M⟩,fun i hi=>?_⟩;obtain⟨E,h1,h2⟩:=Z i (by omega);exact⟨T,U,E,rfl,h1,h2⟩
theorem zgf:Tryz.prog.cellsOf 65=5/\Tryz.prog.cellsOf 34=1/\Tryz.prog.cellsOf 53=2/\Tryz.prog.cellsOf 51=1/\Tryz.prog.cellsOf 40=2/\Tryz.prog.cellsOf 28=5:=⟨by kernel_rfl,by kernel_rfl,by kernel_rfl,by kernel_rfl,by kernel_rfl,by kernel_rfl⟩
theorem znc{fuel:Nat}{I:List Value}{x:DataW H × List MemPlace}(h:DataW.trod enc Tryz.prog w base spare held fuel 22 I=some x) :
  ∃ a c,∃ S:List Fr,I=[.slice a S.length c]/\SlA a S.length c/\zaS w a S:=by
 obtain⟨a,c,S,e,hs,hx⟩:=zfr (⟨0,0,0,0,false⟩:Fr) (fun D y=>D=[.int .i64 y.p,.int .i64 y.o,.int .i64 y.m,.int .i64 y.t,.bool y.g]) Tryz.underlying22 zgf.1 (by decide) (fun n D x' ht=>by
  obtain⟨xs,n', _,_,hl,F,E⟩:=DataW.trod_struct Tryz.underlying65 ht;rw[zgf.1] at hl
  match D,hl with
  | [a0,a1,a2,a3,a4],_ =>
   match xs,F with
   | [x0,x1,x2,x3,x4],_ =>
    obtain⟨n0,J,_⟩:=DataW.trod_int Tryz.underlying3 (E 0 _ rfl);obtain⟨n1,M,_⟩:=DataW.trod_int Tryz.underlying3 (E 1 _ rfl);obtain⟨n2,O,_⟩:=DataW.trod_int Tryz.underlying3 (E 2 _ rfl);obtain⟨n3,T,_⟩:=DataW.trod_int Tryz.underlying3 (E 3 _ rfl);obtain⟨n4,U,_⟩:=DataW.trod_bool Tryz.underlying4 (E 4 _ rfl)
    cases J;cases M;cases O;cases T;cases U
    exact⟨⟨n0,n1,n2,n3,n4⟩,rfl⟩) h
 refine⟨a,c,S,e,hs,fun i hi=>?_⟩;obtain⟨b,o,D,Z,hc,rfl⟩:=hx i hi;exact⟨b,o,Z,hc 0 (by decide),hc 1 (by decide),hc 2 (by decide),hc 3 (by decide),hc 4 (by decide)⟩
theorem zoz{fuel:Nat}{J:List Value}{x:DataW H × List MemPlace}(h:DataW.trod enc Tryz.prog w base spare held fuel 51 J=some x) :
  ∃ a c,∃ S:List Ml,J=[.slice a S.length c]/\SlA a S.length c/\ziq w a S/\∀ j,j<S.length->(ml S j).g.length<=9223372036854775807/\zlb (ml S j).g:=by
 obtain⟨a,c,S,e,hs,T⟩:=zfr zuQ (fun D y=>∃ ga gc,D=[.int .i64 y.f,.slice ga y.g.length gc]/\zaF w ga y.g/\y.g.length<=9223372036854775807/\zlb y.g) Tryz.underlying51 zgf.2.2.1 (by decide) (fun n D x' ht=>by
  obtain⟨xs,n', _,_,hl,F,O⟩:=DataW.trod_struct Tryz.underlying53 ht;rw[zgf.2.2.1] at hl
  match D,hl with
  | [a0,a1],_ =>
   match xs,F with
   | [x0,x1],_ =>
    obtain⟨n0,Z,_⟩:=DataW.trod_int Tryz.underlying3 (O 0 _ rfl);obtain⟨_,_,_,_,s2⟩:=trod_struct1 Tryz.underlying47 (O 1 _ rfl);obtain⟨a2,c2,I,e2,n2,U,E⟩:=zhF s2
    cases Z;cases e2
    exact⟨⟨n0,I⟩,a2,c2,rfl,E,n2,U⟩) h
 refine⟨a,c,S,e,hs,fun i hi=>?_,fun i hi=>?_⟩
 ·obtain⟨b,o,D,M,hc,ga,gc,rfl,h1,_⟩:=T i hi;exact⟨b,o,ga,gc,M,hc 0 (by decide),hc 1 (by decide),h1⟩
 ·obtain⟨b,o,D,M,hc,ga,gc,rfl,_,E⟩:=T i hi;exact E
theorem zne{fuel:Nat}{I:List Value}{x:DataW H × List MemPlace}(h:DataW.trod enc Tryz.prog w base spare held fuel 25 I=some x) :
  ∃ a c,∃ S:List (List Ml),I=[.slice a S.length c]/\SlA a S.length c/\zmj w a S/\∀ i,i<S.length->(qu S i).length<=9223372036854775807/\∀ j,j<(qu S i).length->(ml (qu S i) j).g.length<=9223372036854775807/\zlb (ml (qu S i) j).g:=by
 obtain⟨a,c,S,e,hs,M⟩:=zfr ([]:List Ml) (fun D y=>∃ qa qc,D=[.slice qa y.length qc]/\SlA qa y.length qc/\ziq w qa y/\∀ j,j<y.length->(ml y j).g.length<=9223372036854775807/\zlb (ml y j).g) Tryz.underlying25 zgf.2.2.2.1 (by decide) (fun n D U T=>by
  obtain⟨qa,qc,q,O,h1,E,F⟩:=zoz T;exact⟨q,qa,qc,O,h1,E,F⟩) h
 refine⟨a,c,S,e,hs,fun i hi=>?_,fun i hi=>?_⟩
 ·obtain⟨b,o,D,J,hc,qa,qc,rfl,h1,E,_⟩:=M i hi;have h0:=hc 0 (by decide);rw[Nat.mul_one,Nat.add_zero] at h0;exact⟨b,o,qa,qc,J,h0,h1,E⟩
 ·obtain⟨b,o,D,J,hc,qa,qc,rfl,h1,_,F⟩:=M i hi;exact⟨yG h1.2.1 h1.2.2,F⟩
theorem zoC{fuel:Nat}{E:List Value}{x:DataW H × List MemPlace}(h:DataW.trod enc Tryz.prog w base spare held fuel 24 E=some x) :
  ∃ a c,∃ S:List (List Ac),E=[.slice a S.length c]/\SlA a S.length c/\zjW w a S/\∀ i,i<S.length->(pg S i).length<=9223372036854775807:=by
 obtain⟨a,c,S,e,hs,J⟩:=zfr ([]:List Ac) (fun D y=>∃ qa qc,D=[.slice qa y.length qc]/\y.length<=9223372036854775807/\zbE w qa y) Tryz.underlying24 zgf.2.1 (by decide) (fun n D U T=>by
  obtain⟨qa,qc,q,M,h1,I,O⟩:=zqY T;exact⟨q,qa,qc,M,by omega,O⟩) h
 refine⟨a,c,S,e,hs,fun i hi=>?_,fun i hi=>?_⟩
 ·obtain⟨b,o,D,F,hc,qa,qc,rfl,h1,I⟩:=J i hi;have h0:=hc 0 (by decide);rw[Nat.mul_one,Nat.add_zero] at h0;exact⟨b,o,qa,qc,F,h0,I⟩
 ·obtain⟨b,o,D,F,hc,qa,qc,rfl,h1,_⟩:=J i hi;exact h1
theorem znf{fuel:Nat}{F:List Value}{x:DataW H × List MemPlace}(h:DataW.trod enc Tryz.prog w base spare held fuel 23 F=some x) :
  ∃ a c,∃ S:List Rl,F=[.slice a S.length c]/\SlA a S.length c/\zmk w a S/\∀ i,i<S.length->zuV (rl S i):=by
 obtain⟨a,c,S,e,hs,J⟩:=zfr zbL (fun D R=>∃ A:RA,D=[.slice A.a0 R.s.length A.c0,.slice A.a1 R.hs.length A.c1,.slice A.a2 R.i.length A.c2,.slice A.a3 R.t.length A.c3]/\zuV R/\zdd w A R) Tryz.underlying23 ziQ (by decide) (fun n D T O=>by
  obtain⟨A,R,M,h1,E⟩:=zoD O;exact⟨R,A,M,h1,E⟩) h
 refine⟨a,c,S,e,hs,fun i hi=>?_,fun i hi=>?_⟩
 ·obtain⟨b,o,D,I,hc,A,rfl,h1,E⟩:=J i hi;exact⟨b,o,A,I,hc 0 (by decide),hc 1 (by decide),hc 2 (by decide),hc 3 (by decide),E⟩
 ·obtain⟨b,o,D,I,hc,A,rfl,h1,_⟩:=J i hi;exact h1
theorem zoE{fuel:Nat}{E:List Value}{x:DataW H × List MemPlace}(h:DataW.trod enc Tryz.prog w base spare held fuel 28 E=some x) :
  ∃ (A:WA) (W:Wl),E=[.slice A.a0 W.fs.length A.c0,.slice A.a1 W.rs.length A.c1,.slice A.a2 W.ps.length A.c2,.slice A.a3 W.qs.length A.c3,.slice A.a4 W.pt.length A.c4]/\zrG W/\WlC A W/\zgb w A W:=by
 obtain⟨xs,n,_,_,hl,F,D⟩:=DataW.trod_struct Tryz.underlying28 h;rw[zgf.2.2.2.2.2] at hl
 match E,hl with
 | [v0,v1,v2,v3,v4],_ =>
  match xs,F with
  | [x0,x1,x2,x3,x4],_ =>
   obtain⟨a0,c0,I,T,s0,h0⟩:=znc (D 0 _ rfl);obtain⟨a1,c1,J,U,s1,h1,g1⟩:=znf (D 1 _ rfl);obtain⟨a2,c2,M,Z,s2,h2,g2⟩:=zoC (D 2 _ rfl);obtain⟨a3,c3,O,e3,s3,h3,g3⟩:=zne (D 3 _ rfl);obtain⟨a4,c4,S4,e4,n4,g4,s4,h4⟩:=zoB (D 4 _ rfl)
   cases T;cases U;cases Z;cases e3;cases e4
   exact⟨⟨a0,a1,a2,a3,a4,c0,c1,c2,c3,c4⟩,⟨I,J,M,O,S4⟩,rfl,⟨yG s0.2.1 s0.2.2,⟨yG s1.2.1 s1.2.2,g1⟩,⟨yG s2.2.1 s2.2.2,g2⟩,⟨yG s3.2.1 s3.2.2,g3⟩,n4,g4⟩,⟨s0,s1,s2,s3,s4⟩,⟨h0,h1,h2,h3,h4⟩⟩
theorem zrc{r:Reach}{E:Nat}{v:Value}{d:DataW H}{p:List MemPlace}(U:Value.okWide Tryz.prog w r E 28 v)(h:DataW.Trod enc Tryz.prog w base spare held 28 v d p) :
  ∃ (A:WA) (W:Wl),v=wlV A W/\zrG W/\WlC A W/\zgb w A W:=by
 obtain⟨D,rfl,T⟩:=okWide_struct Tryz.underlying28 U;obtain⟨fuel,O⟩:=h;obtain⟨A,R,e,I,J,M⟩:=zoE O;refine⟨A,R,?_,I,J,M⟩;have F:D.toList=_:=e;rw[show D=D.toList.toArray from by simp,F]
end Go.Proofs.YtcbcpomacdngmaaGreat
