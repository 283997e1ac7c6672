/-
  x
-/
import Derived.Test.YtcbcpomacdngmaaGreatM43
namespace Go.Proofs.YtcbcpomacdngmaaGreat
set_option maxRecDepth 100000
set_option maxHeartbeats 4000000
set_option linter.unusedVariables false
open Go.RowKit Go.ChangeShapes Go.WideShapes
theorem zvU:(Tryz.prog.info? 53).map (fun i=>(i.zero,i.size,i.bytes))=some (some (.agg #[.int .i64 0,.slice none 0 0]),2,32):=by kernel_rfl
theorem zAB{w:World}{b:Nat}{u0 u1:Value}(c0:w.cell? ⟨b,0,none⟩=some u0)(c1:w.cell? ⟨b,1,none⟩=some u1):∀ j u,([u0,u1]:List Value)[j]?=some u->w.cell? ((⟨b,0,none⟩:Addr).add j)=some u:=fun j u D=>by
 rw[Addr.add_lit,yz]
 match j,D with
 | 0,D=>cases D;exact c0
 | 1,D=>cases D;exact c1
theorem zuG(me:Nat)(W:Wl)(x:Ac)(hm:zdF W.fs me x.a 3=0):zhn 114 #[] (fun _=>True) me W x (zeN [zbk (rlm W me) x.n,if (que W x.a.toNat).length=16 then 1 else 0] W { W with qs:=W.qs.set x.a.toNat (que W x.a.toNat++[⟨me,zaW (rlm W me) x.n.toNat⟩]) } 0):=fun w0 d s V I _=>by
 have QI:=zeO [zbk (rlm W me) x.n,if (que W x.a.toNat).length=16 then 1 else 0] W { W with qs:=W.qs.set x.a.toNat (que W x.a.toNat++[⟨me,zaW (rlm W me) x.n.toNat⟩]) } 0;rw[zxj] at QI;obtain⟨q,e1⟩:∃ q,zeN [zbk (rlm W me) x.n,if (que W x.a.toNat).length=16 then 1 else 0] W { W with qs:=W.qs.set x.a.toNat (que W x.a.toNat++[⟨me,zaW (rlm W me) x.n.toNat⟩]) } 0=q:=⟨_,rfl⟩;rw[e1] at QI |-;clear e1;have HR:Hid (zbk (rlm W me) x.n=0->(que W x.a.toNat).length≠16->zan { W with qs:=W.qs.set x.a.toNat (que W x.a.toNat++[⟨me,zaW (rlm W me) x.n.toNat⟩]) }):=fun h1 h2=>zkX I.rt I.sf (by rw[zxk,hm,h1,yb rfl,yb rfl,ya h2]);obtain⟨ka,d9,b7,_⟩:=zdy (zbR hm).2.2.1;obtain⟨xk,xa,xb,xc,xn⟩:=x;have II:Hid (SW w0 d me W s V):=I;have e2:=I.lt;have e6:Hid _:=e2;obtain⟨l0,l1,l2,l3,l4,lf,ll⟩:=zaj I.box;have j1:d<V.heap.size:=ll;have n8:W.fs.length<=8:=I.rt.fs.few;have h4:me<W.fs.length:=I.sf;clear e2;dsimp only at d9 QI HR |-;subst d9;rw[yi] at QI HR;clear hm;obtain⟨k0,k1,k2,k3,kf,kl⟩:=I.rcells I.sf;have cq:V.cell? ⟨s.g3,ka,none⟩=some (.slice (s.Q ka).1 (que W ka).length (s.Q ka).2):=I.r3.cell b7;have i6:(que W ka).length<=16:=(zbs.1 (I.rt.qs ka b7)).1;have D:Hid (∀ V2,Below V.heap.size V V2->Calls _ _ _ _ _):=fun V2 hV=>zna (s.R me) (rlm W me) xn V2 (I.rt.rs me I.sf) ((I.rat I.sf).below hV);have j2:s.g3<V.heap.size:=I.r3.lt
 have nq:∀ j,(j=d\/j=s.g3\/V.heap.size<=j)->s.q ka≠some j:=fun j hj e=>by
  have h1:=I.ap.qq ka j e;have h2:=I.dp.lt (n:=0) I.ap j (.inr ⟨ka,e⟩);rcases hj with h|h|h
  ·exact h1.2.1 h
  ·exact h1.2.2.2.2.1 h
  ·omega
 dsimp only[rlV] at D;show yL _ #[.pointer (some ⟨d,0,none⟩),.int .i64 (me:Int),.agg #[.int .i64 xk,.int .i64 (ka:Int),.int .i64 xb,.int .i64 xc,.int .i64 xn]] V _;obtain⟨n,hn⟩:∃ n,W.fs.length=n:=⟨_,rfl⟩;have HN:Hid (W.fs.length=n):=hn;obtain⟨nt,b9⟩:∃ n,W.pt.length=n:=⟨_,rfl⟩;have i9:Hid (W.pt.length=nt):=b9;rw[b9] at l4;have g9:ka<n:=by omega
 rw[hn] at l0 l1 l2 l3 n8 h4;have MG:Hid (zbk (rlm W me) xn=0->mkG (rlm W me) xn=zaW (rlm W me) xn.toNat):=fun h=>yb h;generalize (rlm W me).s.length=r0 at *;generalize (rlm W me).hs.length=r1 at *;generalize (rlm W me).i.length=r2 at *;generalize (rlm W me).t.length=r3 at *;clear hn b9 I b7;have i8:(me:Int)<(n:Int):=by omega
 have i7:(ka:Int)<(n:Int):=by omega
 obtain⟨E1,b5⟩:∃ E,zbk (rlm W me) xn=E:=⟨_,rfl⟩;have d4:Hid (zbk (rlm W me) xn=E1):=b5;rw[b5] at MG QI HR;clear b5;obtain⟨W', b6⟩:∃ W' : Wl,({ W with qs:=W.qs.set ka (que W ka++[⟨me,zaW (rlm W me) xn.toNat⟩]) }:Wl)=W' :=⟨_,rfl⟩;have b3:Hid (_=W'):=b6;rw[b6] at QI HR;clear b6;have HI:Hid _:=QI;clear QI
 go_enter Tryz.func114,Tryz.ntmps114
 go_upto_region 1 with fail
 obtain⟨M,d6,BV,y0,y1,y2,y3,y4,sV⟩:=zcx V xk (ka:Int) xb xc xn;rw[d6];clear d6;replace l0:=zab l0 BV.out;replace l1:=zab l1 BV.out;replace l2:=zab l2 BV.out;replace l3:=zab l3 BV.out;replace l4:=zab l4 BV.out;replace k0:=zab k0 BV.out;replace k1:=zab k1 BV.out;replace k2:=zab k2 BV.out;replace k3:=zab k3 BV.out;have n0:¬ M.heap.size=d:=by omega
 have o0:¬ d=M.heap.size:=by omega
 have n1:¬ M.heap.size=s.g1:=by omega
 have o1:¬ s.g1=M.heap.size:=by omega
 have n2:¬ M.heap.size=V.heap.size:=by omega
 have o2:¬ V.heap.size=M.heap.size:=by omega
 have j4:d<M.heap.size:=by omega
 have j5:s.g1<M.heap.size:=by omega
 obtain⟨GG,d5⟩:∃ G,mkG (rlm W me) xn=G:=⟨_,rfl⟩;have a6:Hid (mkG (rlm W me) xn=GG):=d5;clear d5;have c9:Hid _:=cq;have e5:Hid _:=nq;clear cq nq
 go_cut [8,9] (fun s8 s9 wx=>∃ (b:Nat) (ga:Option Addr) (gc:Nat),s8=.pointer (some ⟨b,0,none⟩)/\s9=.int .i64 E1/\Hid (Below M.heap.size M wx)/\Hid (wx.heap[b]?=some (.cells #[.slice ga GG.length gc] 47 (0,0)))/\M.heap.size<=b/\Hid (St (fun b=>b<M.heap.size) (fun V=>zaF V ga GG) wx))
 case first =>
  go_region_held3 (fun T=>T.cell? ⟨d,1,none⟩=some (.slice (some ⟨s.g1,0,none⟩) n n)/\T.cell? ⟨s.g1,me*4,none⟩=some (.slice (s.R me).a0 r0 (s.R me).c0)/\T.cell? ⟨s.g1,me*4+1,none⟩=some (.slice (s.R me).a1 r1 (s.R me).c1)/\T.cell? ⟨s.g1,me*4+2,none⟩=some (.slice (s.R me).a2 r2 (s.R me).c2)/\T.cell? ⟨s.g1,me*4+3,none⟩=some (.slice (s.R me).a3 r3 (s.R me).c3)/\T.cell? ⟨V.heap.size,4,none⟩=some (.int .i64 xn)) (go_keep) (first|(go_at_call 139;refine ye (D.out M.drew BV.out.drew) ?_;rintro e w3 ⟨ga,gc,rfl,a7,a5⟩;rw[a6.out,d4.out];rw[a6.out] at a5;have Z:Hid (Below M.heap.size M w3):=(yk _ _).drew.trans a7;have C3:Hid (St (fun b=>b<M.heap.size) (fun V=>zaF V ga GG) w3):=a5;have g4:=zab l1 Z.out;have e7:=zab k0 Z.out;have e8:=zab k1 Z.out;have e9:=zab k2 Z.out;have g0:=zab k3 Z.out;have g5:=zab y4 Z.out;clear a7 a5)|(go_at_call 139;refine ye (D.out (M.alloc (.cells #[.slice none 0 0] 47)).drew (BV.out.trans ((zaa M _).mono BV.out.size)).drew) ?_;rintro e w3 ⟨ga,gc,rfl,a7,a5⟩;rw[a6.out,d4.out];rw[a6.out] at a5;have Z:Hid (Below M.heap.size M w3):=(zaa M _).drew.trans (a7.mono (by simp));have C3:Hid (St (fun b=>b<M.heap.size+1) (fun V=>zaF V ga GG) w3):=(by have h:=a5;simp only[yr,World.size_drew] at h;exact h);have g4:=zab l1 Z.out;have e7:=zab k0 Z.out;have e8:=zab k1 Z.out;have e9:=zab k2 Z.out;have g0:=zab k3 Z.out;have g5:=zab y4 Z.out;have X3:Hid (w3.heap[M.heap.size]?=some (.cells #[.slice none 0 0] 47 (0,0))):=zav (W:=(M.alloc (.cells #[.slice none 0 0] 47)).drew) (yK M _) a7;have x0:=zaI X3.out;have xf:=zaY (o:=0) X3.out;have xl:M.heap.size<w3.heap.size:=zau X3.out;clear a7 a5))
  ·go_wp2_with fail
   go_meet
   case rel=>exact⟨_,ga,gc,rfl,rfl,Z.out.trans ((zaa _ _).mono Z.out.size),yK _ _,Z.out.size,C3.out.off (zar.of_below (zaa _ _))⟩
  ·go_wp2_with fail
   go_meet
   case rel=>exact⟨_,ga,gc,rfl,rfl,Z.out.setCell (yj _) _,ziN X3.out,yj _,(C3.out.off (zar.set _ _ (Nat.lt_succ_self _))).less (fun b hb=>Nat.lt_succ_of_lt hb)⟩
 case rest =>
  obtain⟨b,ga,gc,rfl,rfl,HB,HX,j0,HC⟩:=hcut;have BW:Hid (Below V.heap.size V wc):=BV.out.trans (HB.out.mono BV.out.size);have I2:Hid _:=II.out.below BW.out;clear l0 l1 l2 l3 l4 k0 k1 k2 k3 D;by_cases hE:E1=0
  ·subst hE;have eG:GG=zaW (rlm W me) xn.toNat:=a6.out.symm.trans (MG.out rfl);rw[<- eG] at b3;have b4:Hid _:=b3.out;obtain⟨i1,i2,i3,c3,i4,i5,j6⟩:=zaj I2.out.box;rw[HN.out] at c3;have cq:=zab c9.out BW.out;have cy:=zab y1 HB.out;have cb:=zaI HX.out;have h6:V.heap.size<=b:=(by omega);have j3:M.heap.size<=wc.heap.size:=HB.out.size;clear eG a6 MG c9 y0 y1 y2 y3 y4 i1 i2 i3 i4 i5;obtain⟨m,b8⟩:∃ m,(que W ka).length=m:=⟨_,rfl⟩;have b2:Hid (_=m):=b8;rw[b8] at cq i6 HR HI;clear b8;by_cases a8:m=16
   ·subst a8;have U:=HI.out;rw[yb rfl,yb rfl] at U;have hN:q.e=1/\q.w=W:=⟨U.1,U.2.2 (by decide)⟩;have O:Hid _:=hN;clear HI U hN
    go_wp2_with fail
    go_region
    go_wp2
    exact yv (v:=.tuple #[.int .i64 0,.int .i64 1]) (by simp[results,Tryz.results114,go_sem]) rfl ⟨0,s,by rw[O.out.1],fun h=>absurd (O.out.1.symm.trans h) (by decide),by rw[O.out.2];exact I2.out.below (yk _ _).drew⟩
   ·have hz:((m:Int) == 16)=false:=(by simp;omega);have U:=HI.out;rw[yb rfl,ya a8] at U;have hN:q.e=0/\q.w=W' /\ q.o=0:=⟨U.1,U.2.1 rfl⟩;have O:Hid _:=hN;clear HI U hN;have nq:=e5.out;generalize d7:GG.length=gl at *;have e4:Hid (GG.length=gl):=d7;clear d7
    go_wp2_with fail
    go_region
    go_wp2_with fail
    obtain⟨F,b0⟩:∃ F,F=wc.drew:=⟨_,rfl⟩;have B6:Hid (Below wc.heap.size wc F):=(by rw[b0];exact(yk _ _).drew);have s6:F.heap.size=wc.heap.size:=(by rw[b0];simp);rw[<- b0];clear b0;replace c3:=zab c3 B6.out;replace cy:=zab cy B6.out;replace cq:=zab cq B6.out;replace cb:=zab cb B6.out;have I7:Hid (SW w0 d me W s (F.drew.alloc (.cells #[.int .i64 me,.slice ga gl gc] 53))):=(I2.out.below B6.out).below ((yk F.heap.size F).drew.alloc (yj _) (.cells #[.int .i64 me,.slice ga gl gc] 53));obtain⟨qs,c6⟩:∃ q,zcv (que W ka) (s.G ka)=q:=⟨_,rfl⟩;have d8:ka<W.fs.length:=(by rw[HN.out];exact g9);have HA:Hid (App (SX w0.heap.size d s) w0.heap.size 53 2 (s.Q ka).1 m (s.Q ka).2 qs (s.q ka) (F.drew.alloc (.cells #[.int .i64 me,.slice ga gl gc] 53))):=(by have h:=I7.out.dp.qs ka d8;rw[c6,b2.out] at h;exact h);have c8:Hid (St (SX w0.heap.size d s) (fun V=>zaF V ga GG) (F.drew.alloc (.cells #[.int .i64 me,.slice ga gl gc] 53))):=((HC.out.off (zar.of_below B6.out)).off (zar.of_below ((yk F.heap.size F).drew.alloc (yj _) (.cells #[.int .i64 me,.slice ga gl gc] 53)))).less (fun b hb=>yx (e6.out b hb) BV.out.size);have g6:w0.heap.size<=(F.drew.alloc (.cells #[.int .i64 me,.slice ga gl gc] 53)).heap.size:=I7.out.bel.size;have FZ:Hid (∀ w9,(F.drew.alloc (.cells #[.int .i64 me,.slice ga gl gc] 53)).grownBy w9 (s.q ka)->w9.frozen? ⟨s.g3,ka,none⟩=false):=fun w9 hg=>(yC (hg.block s.g3 I7.out.r3.lt (fun e=>nq s.g3 (.inr (.inl rfl)) e.symm))).trans (I7.out.r3.frozen _)
    have c7:Hid (∀ g cap w9,(F.drew.alloc (.cells #[.int .i64 me,.slice ga gl gc] 53)).grownBy w9 (s.q ka)->w9.ownsRow w0.heap.size 53 2 (.slice (some ⟨g,0,none⟩) (m+1) cap) (m+1) (qs++[.int .i64 me,.slice ga gl gc])->(s.q ka=some g\/(F.drew.alloc (.cells #[.int .i64 me,.slice ga gl gc] 53)).heap.size<=g)->zdM w0 d me q (.returned (.tuple #[.int .i64 0,.int .i64 0])) (w9.setCell ⟨s.g3,ka,none⟩ (.slice (some ⟨g,0,none⟩) (m+1) cap))):=fun g cap w9 g7 e0 h3=>by
     have hR:=HR.out (by trivial) a8;rw[<- b4.out] at hR;have h1:=I7.out.mail (k:=ka) (m:=⟨me,GG⟩) (ga:=(ga,gc)) (g:=g) (cap:=cap) d8 c8.out g7 (by rw[c6,b2.out,e4.out];exact e0) h3 hR rfl;rw[b2.out,b4.out] at h1;rw[<- O.out.2.1] at h1;exact⟨0,_,by rw[O.out.1],fun _=>O.out.2.2.symm,h1⟩
    clear c6 I7 c8 HR b4 b3;generalize s.q ka=qt at *;generalize s.Q ka=Qk at *;obtain⟨qa,qc⟩:=Qk;dsimp only at cq HA;obtain⟨i0,g8,h7,h8,h9⟩:=info_parts zvU;refine wp_region_noPanic ?_;refine zeR (S:=fun T=>T.cell? ⟨d,3,none⟩=some (.slice (some ⟨s.g3,0,none⟩) n n)/\T.cell? ⟨V.heap.size,1,none⟩=some (.int .i64 (ka:Int))/\T.cell? ⟨s.g3,ka,none⟩=some (.slice qa m qc)/\T.cell? ⟨b,0,none⟩=some (.slice ga gl gc)) 20 (by kernel_rfl) (by(try dsimp only);go_keep) (fun hHeld=>?_);refine zaf (i:=0) ?_;simp[Act.put];refine zaf (i:=1) ?_;simp[Act.put];refine zaf (i:=2) ?_;simp[Act.put];refine zaf (i:=3) ?_;simp[Act.put];refine zaf (i:=4) ?_;simp[Act.put];refine zaf (i:=5) ?_;simp[Act.put];refine zaf (i:=6) ?_;simp[Act.put];refine zaf (i:=7) ?_;simp[Act.put];refine zaf (i:=8) ?_;simp[Act.put];refine zaf (i:=9) ?_;simp[Act.put];refine zaf (i:=10) ?_;simp[Act.put];refine zaf (i:=11) ?_;simp[Act.put];refine zaf (i:=12) ?_;simp[Act.put];refine zaf (i:=13) ?_;simp[Act.put];refine zaf (i:=14) ?_;simp[Act.put];refine zaf (i:=15) ?_;simp[Act.put];refine zaf (i:=16) ?_;simp[Act.put];refine zbD (i:=17) (by kernel_rfl) rfl (fun K hK=>?_);go_simp;refine hK.out _ _ ?_ (fun hHeld=>?_)
    ·exact⟨zab c3 ((yk F.heap.size F).drew.alloc (yj _) (.cells #[.int .i64 me,.slice ga gl gc] 53)),zab cy ((yk F.heap.size F).drew.alloc (yj _) (.cells #[.int .i64 me,.slice ga gl gc] 53)),zab cq ((yk F.heap.size F).drew.alloc (yj _) (.cells #[.int .i64 me,.slice ga gl gc] 53)),zab cb ((yk F.heap.size F).drew.alloc (yj _) (.cells #[.int .i64 me,.slice ga gl gc] 53))⟩
    clear hK K hHeld
    try simp[Act.put]
    refine zbD (i:=18) (by kernel_rfl) rfl (fun K hK=>?_);refine zlX (F.drew.alloc (.cells #[.int .i64 me,.slice ga gl gc] 53)) rfl (.tmp 49) (.tmp 53) 51 rfl 53 i0 (.agg #[.int .i64 0,.slice none 0 0]) 2 32 Tryz.underlying51 g8 h7 h8 h9 rfl (by decide) qa m qc qs qt HA.out g6 rfl ⟨F.heap.size,0,none⟩ 1 1 [.int .i64 me,.slice ga gl gc] (by simp[Act.eval]) rfl (zAB (zad F.drew _ _ 0 rfl) (zad F.drew _ _ 1 rfl)) (by intro u hu;simp at hu;rcases hu with rfl|rfl <;> rfl) (by decide) (by unfold maxLen;omega) (by omega) ?_;intro g cap w9 b1 J a9 j7;have t3:w9.cell? ⟨d,3,none⟩=some (.slice (some ⟨s.g3,0,none⟩) n n):=J.cell (a:=⟨d,3,none⟩) (zab c3 ((yk F.heap.size F).drew.alloc (yj _) (.cells #[.int .i64 me,.slice ga gl gc] 53))) (fun e=>nq d (.inl rfl) e.symm);have ty:w9.cell? ⟨V.heap.size,1,none⟩=some (.int .i64 (ka:Int)):=J.cell (a:=⟨V.heap.size,1,none⟩) (zab cy ((yk F.heap.size F).drew.alloc (yj _) (.cells #[.int .i64 me,.slice ga gl gc] 53))) (fun e=>nq _ (.inr (.inr (yj _))) e.symm);have tq:w9.cell? ⟨s.g3,ka,none⟩=some (.slice qa m qc):=J.cell (a:=⟨s.g3,ka,none⟩) (zab cq ((yk F.heap.size F).drew.alloc (yj _) (.cells #[.int .i64 me,.slice ga gl gc] 53))) (fun e=>nq _ (.inr (.inl rfl)) e.symm);have tb:w9.cell? ⟨b,0,none⟩=some (.slice ga gl gc):=J.cell (a:=⟨b,0,none⟩) (zab cb ((yk F.heap.size F).drew.alloc (yj _) (.cells #[.int .i64 me,.slice ga gl gc] 53))) (fun e=>nq b (.inr (.inr h6)) e.symm);have f9:w9.frozen? ⟨s.g3,ka,none⟩=false:=FZ.out w9 J
    have e3:Hid _:=c7.out g cap w9 J b1 a9;refine hK.out _ _ ?_ (fun hHeld=>?_)
    ·exact⟨t3,ty,tq,tb⟩
    clear hK K b1 J a9 c7 FZ
    try simp[Act.put]
    refine zaf (i:=19) ?_;simp[Act.put];clear hHeld;refine zeQ (by kernel_rfl) rfl (fun K hK=>?_);go_simp;refine hK.out _ _ ?_;clear hK K
    try simp[Act.put]
    refine zeP (by kernel_rfl) ?_ _;refine NoPanic.normal ?_
    go_wp2
    exact yv (v:=.tuple #[.int .i64 0,.int .i64 0]) (by simp[results,Tryz.results114,go_sem]) rfl e3.out
  ·have hN:q.e=E1/\q.w=W:=⟨by rw[HI.out.1,ya hE],HI.out.2.2 (by rw[ya hE];exact hE)⟩;have O:Hid _:=hN;have hz:(E1 == 0)=false:=(by simp[hE]);clear HI hN HR
   go_wp2
   exact yv (v:=.tuple #[.int .i64 0,.int .i64 E1]) (by simp[results,Tryz.results114,go_sem]) rfl ⟨0,s,by rw[O.out.1],fun h=>absurd (O.out.1.symm.trans h) hE,by rw[O.out.2];exact I2.out⟩
theorem zwQ(w:World){D E:Nat}(I J:Nat)(v1 v2:Value)(h:D≠E):(w.setCell ⟨D,I,none⟩ v1).setCell ⟨E,J,none⟩ v2=(w.setCell ⟨E,J,none⟩ v2).setCell ⟨D,I,none⟩ v1:=by
 unfold World.setCell
 congr 1
 apply Array.ext
 ·simp
 ·intro i h1 O;simp only[Array.getElem_modify];by_cases F:D=i
  ·have M:¬ E=i:=fun e=>h (F.trans e.symm);simp[F,M]
  ·simp[F]
def zze(E:W0)(d me:Nat)(W:Wl)(st:Bool)(s:SD)(e:Ending)(w' : World):Prop:=∃ ga gc D,e=.returned (.agg #[.slice ga (if st then [] else ((que W me).getD 0 ⟨0,[]⟩).g).length gc])/\SW E d me (if st then W else { W with qs:=W.qs.set me ((que W me).drop 1) }) D w' /\ D.g1=s.g1/\St (SX E.heap.size d D) (fun V=>zaF V ga (if st then [] else ((que W me).getD 0 ⟨0,[]⟩).g)) w'
theorem zwV(me:Nat)(W:Wl)(st:Bool)(M:W0)(d:Nat)(s:SD)(V:World)(I:SW M d me W s V)(hq:s.q me=none)(hl:st=false->(que W me).length≠0):yL 40 #[.pointer (some ⟨d,0,none⟩),.agg #[.int .i64 (me:Int),.bool st]] V (zze M d me W st s):=by
 have Z:Hid (SW M d me W s V):=I;have b0:Hid _:=I.lt;obtain⟨l0,l1,l2,l3,l4,lf,ll⟩:=zaj I.box;have n8:W.fs.length<=8:=I.rt.fs.few;have a8:me<W.fs.length:=I.sf;have r3:V.cell? ⟨s.g3,me,none⟩=some (.slice (s.Q me).1 (que W me).length (s.Q me).2):=(I.r3.cell a8);clear l0 l1 l2 l4;cases st
 ·obtain⟨b,o,hQ,a6,hc,HS,HT⟩:=I.take hq (hl rfl);rw[hQ] at r3;have U:Hid _:=HT;have F:Hid _:=HS;have b6:=hl rfl;clear HT HS hl hq I;have b1:b<V.heap.size:=yd _ _ hc;have b2:s.g3<V.heap.size:=yd _ _ r3;have HN:Hid _:=n8;generalize W.fs.length=n at *;generalize s.G me 0=g0 at *;obtain⟨G,hG⟩:∃ G,((que W me).getD 0 ⟨0,[]⟩).g=G:=⟨_,rfl⟩;have HG:Hid _:=hG;rw[hG] at hc F;clear hG;obtain⟨ga,gc⟩:=g0;dsimp only at hc F
  go_enter Tryz.func40,Tryz.ntmps40
  go_upto_region 1 with fail
  obtain⟨E,D⟩:∃ E,(V.alloc (.cells #[.int .i64 me,.bool false] 40)).alloc (.cells #[.slice none 0 0] 47)=E:=⟨_,rfl⟩;have O:Hid (Below V.heap.size V E):=by rw[<- D];exact(zaa _ _).trans ((zaa _ _).mono (by simp))
  have y0:E.cell? ⟨V.heap.size,0,none⟩=some (.int .i64 me):=by rw[<- D];exact zaM _ _ _ 0 _ rfl
  have y1:E.cell? ⟨V.heap.size,1,none⟩=some (.bool false):=by rw[<- D];exact zaM _ _ _ 1 _ rfl
  have z0:E.cell? ⟨V.heap.size+1,0,none⟩=some (.slice none 0 0):=by rw[<- D];exact zaN _ _ _ 0 _ rfl
  have zf:E.frozen? ⟨V.heap.size+1,0,none⟩=false:=by
   rw[<- D];have h:=zaY (o:=0) (yK (V.alloc (.cells #[.int .i64 me,.bool false] 40)) (.cells #[.slice none 0 0] 47));rw[show (V.alloc (.cells #[.int .i64 me,.bool false] 40)).heap.size=V.heap.size+1 from by simp] at h;exact h
  have T:Hid (∀ J,(J=some ⟨b,o+2,none⟩\/((que W me).length=1/\∀ ad,J=some ad->∃ b o,ad=⟨b,o,none⟩))->zze M d me W false s (.returned (.agg #[.slice ga G.length gc])) ((E.setCell ⟨s.g3,me,none⟩ (.slice J ((que W me).length-1) ((que W me).length-1))).setCell ⟨V.heap.size+1,0,none⟩ (.slice ga G.length gc)).drew.drew):=fun J a5=>by
   have HB:Below V.heap.size V (E.setCell ⟨V.heap.size+1,0,none⟩ (.slice ga G.length gc)):=O.out.setCell (by show V.heap.size<=V.heap.size+1;omega) _;obtain⟨s', h1,h2,_,h4⟩:=U.out _ J (Z.out.below HB) a5;rw[zwQ E me 0 _ _ (show s.g3≠V.heap.size+1 by omega)];refine⟨ga,gc,s', ?_,h1.below (yk _ _).drew.drew,h2,?_⟩
   ·rw[<- HG.out];rfl
   ·have h5:=(St.off (show St (SX M.heap.size d s) (fun V=>zaF V ga G) V from F.out) (((zar.of_below HB).trans (zar.set (X:=SX M.heap.size d s) (o:=me) _ (.slice J ((que W me).length-1) ((que W me).length-1)) (.inr (.inr (.inr (.inr (.inl rfl))))))).trans (zar.of_below (yk _ _).drew.drew))).less h4;show St _ (fun V=>zaF V ga ((que W me).getD 0 ⟨0,[]⟩).g) _;rw[HG.out];exact h5
  rw[D];clear D;replace l3:=zab l3 O.out;replace r3:=zab r3 O.out;replace hc:=zab hc O.out;have b3:(me:Int)<(n:Int):=by omega
  have f3:E.frozen? ⟨s.g3,me,none⟩=false:=(Z.out.below O.out).r3.frozen _
  go_wp2_with fail
  have b7:¬ s.g3=V.heap.size:=by omega
  have b8:¬ s.g3=V.heap.size+1:=by omega
  have b9:¬ V.heap.size+1=s.g3:=by omega
  have c6:¬ V.heap.size=s.g3:=by omega
  have a9:¬ b=s.g3:=fun e=>a6 e.symm;generalize (que W me).length=m at *;by_cases a7:m=1
  ·subst a7
   go_region
   go_wp2_with fail
   go_region
   go_wp2
   exact yv (v:=.agg #[.slice ga G.length gc]) (by simp[results,Tryz.results40,go_sem,z0]) rfl (T.out (some ⟨b,o,none⟩) (.inr ⟨by trivial,fun ad h=>by cases h;exact⟨_,_,rfl⟩⟩))
  ·have b4:¬ ((m:Int)=1):=(by omega);have b5:(1:Int)<=(m:Int):=by omega
   go_region
   go_wp2_with fail
   go_region
   go_wp2
   exact yv (v:=.agg #[.slice ga G.length gc]) (by simp[results,Tryz.results40,go_sem,z0]) rfl (T.out (some ⟨b,o+2,none⟩) (.inl rfl))
 ·clear hl hq I r3 l3
  go_enter Tryz.func40,Tryz.ntmps40
  go_wp2
  refine yv (v:=.agg #[.slice none 0 0]) (by simp[results,Tryz.results40,go_sem]) rfl ⟨none,0,s,rfl,Z.out.below ?_,rfl,fun _ _ i hi=>absurd hi (yw i)⟩;exact(zaa _ _).trans ((zaa _ _).mono (by simp))
theorem SW.moved{J:W0}{d me:Nat}{W:Wl}{s:SD}{V:World}(I:SW J d me W s V){D g c0 r:Nat}{a0 a1:Option Addr}{o:Int}(Z:D<W.fs.length)(O:goE W.fs D o=0)(hf:St (SX J.heap.size d s) (fun V=>zaS V (some ⟨g,0,none⟩) (goF W.fs D o)) V)(hn:St (SX J.heap.size d s) (fun V=>zah V a0 (List.replicate r zbe)/\zaw V a1 (List.replicate 16 (0,0))) V)(hr:(rlm W D).s.length=r) :
  ∃ s', SW J d me { fs:=goF W.fs D o,rs:=W.rs.set D (zdm r),ps:=W.ps.set D [],qs:=W.qs.set D [],pt:=W.pt } s' (((((((V.setCell ⟨d,0,none⟩ (.slice (some ⟨g,0,none⟩) W.fs.length W.fs.length)).setCell ⟨s.g1,D*4,none⟩ (.slice a0 r c0)).setCell ⟨s.g1,D*4+1,none⟩ (.slice a1 16 16)).setCell ⟨s.g1,D*4+2,none⟩ (.slice none 0 0)).setCell ⟨s.g1,D*4+3,none⟩ (.slice none 0 0)).setCell ⟨s.g2,D,none⟩ (.slice none 0 0)).setCell ⟨s.g3,D,none⟩ (.slice none 0 0)):=by
 have hl:=zgU W.fs (D:Int) o;have n8:=I.rt.fs.few;have hs:r<=24:=by rw[<- hr];exact(zay (I.rt.rs D Z)).1.small
 obtain⟨n1,M⟩:=zji r hs;have F:=I.frames (a:=some ⟨g,0,none⟩) (c:=W.fs.length) (L:=goF W.fs D o) hf hl (zan.frames I.rt (zpi O) hl) ⟨(fun e=>by cases e),by rw[hl];exact yj _,by omega⟩;have ho:zar (SX J.heap.size d s) V (V.setCell ⟨d,0,none⟩ (.slice (some ⟨g,0,none⟩) W.fs.length W.fs.length)):=zar.set V _ (.inr (.inl rfl));have E:D<(goF W.fs D o).length:=by rw[hl];exact Z
 have R:=F.realm (k:=D) (A:=⟨a0,a1,none,none,c0,16,0,0⟩) (Q:=zdm r) E n1 (by rw[M];exact fun T h=>⟨(hn.off ho T h).1,(hn.off ho T h).2,fun _ h=>absurd h (yw _)⟩) (by rw[M];exact fun _ _ _ h=>absurd h (yw _)) (fun _=>⟨by rw[M];rfl,fun U h=>by cases h⟩) rfl;have P:=R.noprog (k:=D) E;have Q:=P.queue (k:=D) (a:=none) (c:=0) (q:=[]) (G:=fun _=>(none,0)) E (fun _ _ U h=>by cases h) ⟨fun _=>rfl,fun U h=>by cases h⟩ rfl (fun j hj=>absurd hj (yw _)) (zan.queue (q:=[]) P.rt E rfl);have e:(zdm r).s.length=r/\(zdm r).hs.length=16/\(zdm r).i.length=0/\(zdm r).t.length=0:=by rw[M];simp
 rw[e.1,e.2.1,e.2.2.1,e.2.2.2] at Q;exact⟨_,Q⟩
theorem zpg(w:World)(a:Addr)(v:Value):w.drew.setCell a v=(w.setCell a v).drew:=rfl
theorem zwP(w:World){F D:Nat}{T I J M O:Nat}{v u0 u1 u2 u3:Value}{j:Nat}(h1:j≠F)(E:j≠D):(((((w.setCell ⟨F,T,none⟩ v).setCell ⟨D,I,none⟩ u0).setCell ⟨D,J,none⟩ u1).setCell ⟨D,M,none⟩ u2).setCell ⟨D,O,none⟩ u3).heap[j]?=w.heap[j]?:=by
 rw[ys _ _ _ _ E,ys _ _ _ _ E,ys _ _ _ _ E,ys _ _ _ _ E,ys _ _ _ _ h1]
theorem ztD(me:Nat)(W:Wl)(x:Ac)(hm:zdF W.fs me x.n 5=0):zhn 117 #[] (fun _=>True) me W x (zeN [goE W.fs x.n x.a] W { fs:=goF W.fs x.n x.a,rs:=W.rs.set x.n.toNat (zdm (rlm W x.n.toNat).s.length),ps:=W.ps.set x.n.toNat [],qs:=W.qs.set x.n.toNat [],pt:=W.pt } 0):=fun w0 d s V I _=>by
 have QI:=zeO [goE W.fs x.n x.a] W { fs:=goF W.fs x.n x.a,rs:=W.rs.set x.n.toNat (zdm (rlm W x.n.toNat).s.length),ps:=W.ps.set x.n.toNat [],qs:=W.qs.set x.n.toNat [],pt:=W.pt } 0;rw[zkD] at QI;obtain⟨q,d8⟩:∃ q,zeN [goE W.fs x.n x.a] W { fs:=goF W.fs x.n x.a,rs:=W.rs.set x.n.toNat (zdm (rlm W x.n.toNat).s.length),ps:=W.ps.set x.n.toNat [],qs:=W.qs.set x.n.toNat [],pt:=W.pt } 0=q:=⟨_,rfl⟩;rw[d8] at QI |-;clear d8;obtain⟨D,d7,a9,_⟩:=zdy (zbR hm).2.2.1;obtain⟨xk,xa,xb,xc,xn⟩:=x;have II:Hid (SW w0 d me W s V):=I;have e0:=I.lt;have b6:Hid _:=e0;obtain⟨l0,l1,l2,l3,l4,lf,ll⟩:=zaj I.box;have j6:d<V.heap.size:=ll;have n8:W.fs.length<=8:=I.rt.fs.few;have h6:me<W.fs.length:=I.sf;clear e0;dsimp only at d7 QI |-;subst d7;rw[yi] at QI;clear hm;obtain⟨k0,k1,k2,k3,kf,kl⟩:=I.rcells a9;have j7:s.g2<V.heap.size:=I.r2.lt;have j8:s.g3<V.heap.size:=I.r3.lt;have J:=I.ap;have e8:(rlm W D).s.length<=24:=(zay (I.rt.rs D a9)).1.small;have D0:Hid (goE W.fs D xa≠0->∀ O,Below V.heap.size V O->Calls _ _ _ _ _):=fun U O hV=>zzx s.a0 s.c0 W.fs D xa O (by omega) ((I.dp.fr.at).below hV) U;have D1:Hid (goE W.fs D xa=0->∀ O,Below V.heap.size V O->Calls _ _ _ _ _):=fun U O hV=>go_ok s.a0 s.c0 W.fs D xa O ((I.dp.fr.at).below hV) U;show yL _ #[.pointer (some ⟨d,0,none⟩),.int .i64 (me:Int),.agg #[.int .i64 xk,.int .i64 xa,.int .i64 xb,.int .i64 xc,.int .i64 (D:Int)]] V _;obtain⟨n,hn⟩:∃ n,W.fs.length=n:=⟨_,rfl⟩;have HN:Hid (W.fs.length=n):=hn;obtain⟨nt,b2⟩:∃ n,W.pt.length=n:=⟨_,rfl⟩;have g0:Hid (W.pt.length=nt):=b2
 rw[b2] at l4;have j9:D<n:=by omega
 rw[hn] at l0 l1 l2 l3 n8 h6 D0 D1;obtain⟨r,hr⟩:∃ r,(rlm W D).s.length=r:=⟨_,rfl⟩;have g4:Hid ((rlm W D).s.length=r):=hr;rw[hr] at k0 QI e8;obtain⟨E,U⟩:∃ E,goE W.fs D xa=E:=⟨_,rfl⟩;have HE:Hid (goE W.fs D xa=E):=U;rw[U] at D0 D1 QI;have a8:Hid _:=a9;have i9:Hid _:=J;have d1:¬ d=s.g1:=J.d1;have d2:¬ d=s.g2:=J.d2;have d3:¬ d=s.g3:=J.d3;have g5:¬ s.g1=s.g2:=J.g12;have g6:¬ s.g1=s.g3:=J.g13;have g7:¬ s.g2=s.g3:=J.g23;clear hn b2 I hr U a9 J k1 k2 k3;have i0:(D:Int)<(n:Int):=by omega
 have HI:Hid _:=QI;clear QI
 go_enter Tryz.func117,Tryz.ntmps117
 go_upto_region 1 with fail
 obtain⟨V1,d4,BV,y0,y1,y2,y3,y4,sV⟩:=zcx V xk xa xb xc (D:Int);rw[d4];clear d4;replace l0:=zab l0 BV.out;replace l1:=zab l1 BV.out;replace l2:=zab l2 BV.out;replace l3:=zab l3 BV.out;replace l4:=zab l4 BV.out;replace k0:=zab k0 BV.out;have k4:d<V1.heap.size:=by omega
 have k5:s.g1<V1.heap.size:=by omega
 by_cases U:E=0
 ·subst U;have hN:q.e=0/\q.w={ fs:=goF W.fs D xa,rs:=W.rs.set D (zdm r),ps:=W.ps.set D [],qs:=W.qs.set D [],pt:=W.pt }/\q.o=0:=⟨HI.out.1,HI.out.2.1 rfl⟩;have M:Hid _:=hN;have DD:Hid (∀ O,Below V.heap.size V O->Calls _ _ _ _ _):=D1.out rfl;have DN:Hid (∀ O,Calls _ _ _ _ _):=fun O=>ztF r O e8;clear hN HI D0 D1
  go_region_held3 (fun F=>F.cell? ⟨d,0,none⟩=some (.slice s.a0 n s.c0)/\F.cell? ⟨V.heap.size,4,none⟩=some (.int .i64 (D:Int))/\F.cell? ⟨V.heap.size,1,none⟩=some (.int .i64 xa)) (go_keep) (first|(go_at_call 141;refine ye (DD.out V1.drew BV.out.drew) ?_;rintro e w3 ⟨g,rfl,a6,b0,d6⟩;have T:Hid (Below V1.heap.size V1 w3):=(yk _ _).drew.trans a6;have F3:Hid (zaS w3 (some ⟨g,0,none⟩) (goF W.fs D xa)):=d6;have c7:=zab l0 T.out;have c9:=zab y4 T.out;have c8:=zab y1 T.out;clear a6 d6))
  have s3:V1.heap.size<=w3.heap.size:=T.out.size;have gg:V1.heap.size<=g:=by simpa using b0
  have m1:=zab l1 T.out;have my:=zab y4 T.out;have mr:=zab k0 T.out;clear l0 l1 l2 l3 l4 k0 c7 c9 c8 b0 DD y0 y1 y2 y3;have n0:¬ w3.heap.size=d:=by omega
  have o0:¬ d=w3.heap.size:=by omega
  have n1:¬ w3.heap.size=s.g1:=by omega
  have o1:¬ s.g1=w3.heap.size:=by omega
  have n2:¬ w3.heap.size=V.heap.size:=by omega
  have o2:¬ V.heap.size=w3.heap.size:=by omega
  have i1:d<w3.heap.size:=by omega
  have i2:s.g1<w3.heap.size:=by omega
  go_upto_region 4 with fail
  go_cut [9,10] (fun s9 s10 wx=>∃ (b:Nat) (a0 a1:Option Addr) (c0:Nat),s10=.pointer (some ⟨b,0,none⟩)/\s9=.int .i64 0/\Hid (Below w3.heap.size w3 wx)/\Hid (wx.heap[b]?=some (.cells #[.slice a0 r c0,.slice a1 16 16,.slice none 0 0,.slice none 0 0] 50 (0,0)))/\w3.heap.size<=b/\Hid (St (fun b=>b<w3.heap.size) (fun V=>zah V a0 (List.replicate r zbe)/\zaw V a1 (List.replicate 16 (0,0))) wx))
  case first =>
   go_region_held3 (fun F=>F.cell? ⟨d,1,none⟩=some (.slice (some ⟨s.g1,0,none⟩) n n)/\F.cell? ⟨V.heap.size,4,none⟩=some (.int .i64 (D:Int))/\F.cell? ⟨s.g1,D*4,none⟩=some (.slice (s.R D).a0 r (s.R D).c0)) (go_keep) (first|(go_at_call 28;refine ye (DN.out w3.drew) ?_;rintro e w5 ⟨a0,a1,c0,rfl,Z,a7⟩;have B5:Hid (Below w3.heap.size w3 w5):=(yk _ _).drew.trans Z;have C5:Hid (St (fun b=>b<w3.heap.size) (fun V=>zah V a0 (List.replicate r zbe)/\zaw V a1 (List.replicate 16 (0,0))) w5):=a7;have g8:=zab m1 B5.out;have h4:=zab my B5.out;have g9:=zab mr B5.out;clear Z a7)|(go_at_call 28;refine ye (DN.out (w3.alloc (.cells #[.slice none 0 0,.slice none 0 0,.slice none 0 0,.slice none 0 0] 50)).drew) ?_;rintro e w5 ⟨a0,a1,c0,rfl,Z,a7⟩;have B5:Hid (Below w3.heap.size w3 w5):=(zaa w3 _).drew.trans (Z.mono (by simp));have C5:Hid (St (fun b=>b<w3.heap.size+1) (fun V=>zah V a0 (List.replicate r zbe)/\zaw V a1 (List.replicate 16 (0,0))) w5):=(by have h:=a7;simp only[yr,World.size_drew] at h;exact h);have g8:=zab m1 B5.out;have h4:=zab my B5.out;have g9:=zab mr B5.out;have X5:Hid (w5.heap[w3.heap.size]?=some (.cells #[.slice none 0 0,.slice none 0 0,.slice none 0 0,.slice none 0 0] 50 (0,0))):=zav (W:=(w3.alloc (.cells #[.slice none 0 0,.slice none 0 0,.slice none 0 0,.slice none 0 0] 50)).drew) (yK w3 _) Z;obtain⟨x0,x1,x2,x3,xf,xl⟩:=zai X5.out;clear Z a7))
   ·go_wp2_with fail
    go_meet
    case rel=>exact⟨_,a0,a1,c0,rfl,rfl,B5.out.trans ((zaa _ _).mono B5.out.size),zcd _ _ _ _ _ _,B5.out.size,C5.out.off (zar.of_below (zaa _ _))⟩
   ·go_wp2_with fail
    go_meet
    case rel=>exact⟨_,a0,a1,c0,rfl,rfl,(((B5.out.setCell (yj _) _).setCell (yj _) _).setCell (yj _) _).setCell (yj _) _,zcN X5.out,yj _,(C5.out.off (zpJ (Nat.lt_succ_self _) _ _ _ _ _)).less (fun b hb=>Nat.lt_succ_of_lt hb)⟩
  case rest =>
   obtain⟨b,a0,a1,c0,rfl,rfl,HB,HX,j5,HC⟩:=hcut;have b1:Hid (Below V.heap.size V w3):=BV.out.trans (T.out.mono BV.out.size);have BW:Hid (Below V.heap.size V wc):=b1.out.trans (HB.out.mono b1.out.size);have I2:Hid _:=II.out.below BW.out;have FF:Hid (St (SX w0.heap.size d s) (fun V=>zaS V (some ⟨g,0,none⟩) (goF W.fs D xa)) wc):=zxl (F3.out.below HB.out) (fun h=>by have:=b6.out g h;omega);have b5:Hid _:=HC.out.less (fun b hb=>yx (b6.out b hb) b1.out.size)
   have b3:Hid (zdM w0 d me q (.returned (.tuple #[.int .i64 0,.int .i64 0])) (((((((wc.setCell ⟨d,0,none⟩ (.slice (some ⟨g,0,none⟩) n n)).setCell ⟨s.g1,D*4,none⟩ (.slice a0 r c0)).setCell ⟨s.g1,D*4+1,none⟩ (.slice a1 16 16)).setCell ⟨s.g1,D*4+2,none⟩ (.slice none 0 0)).setCell ⟨s.g1,D*4+3,none⟩ (.slice none 0 0)).setCell ⟨s.g2,D,none⟩ (.slice none 0 0)).setCell ⟨s.g3,D,none⟩ (.slice none 0 0))):=by
    obtain⟨s', d9⟩:=I2.out.moved (c0:=c0) a8.out HE.out FF.out b5.out g4.out;rw[HN.out] at d9;refine⟨0,s', by rw[M.out.1],fun _=>M.out.2.2.symm,?_⟩;rw[M.out.2.1];exact d9
   obtain⟨e4,e5,e6,e7,h7,k6,k7⟩:=zaj I2.out.box;rw[HN.out] at e4 e5 e6 e7;obtain⟨z0,z1,z2,z3,zl⟩:=zxI HX.out;have b7:(wc.setCell ⟨d,0,none⟩ (.slice (some ⟨g,0,none⟩) n n)).cell? ⟨d,1,none⟩=some (.slice (some ⟨s.g1,0,none⟩) n n):=(by have h:(wc.setCell ⟨d,0,none⟩ (.slice (some ⟨g,0,none⟩) n n)).heap[d]?=some (.cells #[.slice (some ⟨g,0,none⟩) n n,.slice (some ⟨s.g1,0,none⟩) W.fs.length W.fs.length,.slice (some ⟨s.g2,0,none⟩) W.fs.length W.fs.length,.slice (some ⟨s.g3,0,none⟩) W.fs.length W.fs.length,.slice s.a4 W.pt.length s.c4] 28 (0,0)):=zaG (i:=0) I2.out.box;have h2:=(zaj h).2.1;rw[HN.out] at h2;exact h2);have e9:Hid ((wc.setCell ⟨d,0,none⟩ (.slice (some ⟨g,0,none⟩) n n)).heap[d]?=some (.cells #[.slice (some ⟨g,0,none⟩) n n,.slice (some ⟨s.g1,0,none⟩) n n,.slice (some ⟨s.g2,0,none⟩) n n,.slice (some ⟨s.g3,0,none⟩) n n,.slice s.a4 nt s.c4] 28 (0,0))):=(by have h:=I2.out.box;rw[HN.out,g0.out] at h;exact zaG (i:=0) h);have b8:(wc.setCell ⟨d,0,none⟩ (.slice (some ⟨g,0,none⟩) n n)).drew.cell? ⟨d,1,none⟩=some (.slice (some ⟨s.g1,0,none⟩) n n):=b7;obtain⟨j0,j1,j2,j3,jf,jl⟩:=I2.out.rcells a8.out;have p2:wc.cell? ⟨s.g2,D,none⟩=some (.slice (s.P D).1 (prg W D).length (s.P D).2):=I2.out.r2.cell a8.out;have p3:wc.cell? ⟨s.g3,D,none⟩=some (.slice (s.Q D).1 (que W D).length (s.Q D).2):=I2.out.r3.cell a8.out;have f2:wc.frozen? ⟨s.g2,D,none⟩=false:=I2.out.r2.frozen _;have f3:wc.frozen? ⟨s.g3,D,none⟩=false:=I2.out.r3.frozen _;have yy:=zab my HB.out;clear m1 my mr F3 FF HC b5 HX I2 DN
   have k8:¬ b=d:=(by omega);have i3:¬ d=b:=(by omega);have k9:¬ b=s.g1:=(by omega);have i4:¬ s.g1=b:=(by omega);have h8:¬ V.heap.size=d:=(by omega);have i5:¬ d=V.heap.size:=(by omega);have h9:¬ V.heap.size=s.g1:=(by omega);have i6:¬ s.g1=V.heap.size:=(by omega);have l5:¬ V.heap.size=s.g2:=(by omega);have i7:¬ s.g2=V.heap.size:=(by omega);have l6:¬ V.heap.size=s.g3:=(by omega);have i8:¬ s.g3=V.heap.size:=(by omega);have e1:¬ s.g1=d:=fun e=>d1 e.symm;have e2:¬ s.g2=d:=fun e=>d2 e.symm;have e3:¬ s.g3=d:=fun e=>d3 e.symm;have b9:¬ s.g2=s.g1:=fun e=>g5 e.symm;have c6:¬ s.g3=s.g1:=fun e=>g6 e.symm;have j4:¬ s.g3=s.g2:=fun e=>g7 e.symm
   go_wp2_with fail
   go_region_held3 (fun F=>F.cell? ⟨d,1,none⟩=some (.slice (some ⟨s.g1,0,none⟩) n n)/\F.cell? ⟨V.heap.size,4,none⟩=some (.int .i64 (D:Int))/\F.cell? ⟨b,0,none⟩=some (.slice a0 r c0)/\F.cell? ⟨b,1,none⟩=some (.slice a1 16 16)/\F.cell? ⟨b,2,none⟩=some (.slice none 0 0)/\F.cell? ⟨b,3,none⟩=some (.slice none 0 0)) (go_keep) (fail)
   go_wp2_with fail
   obtain⟨V7,a5⟩:∃ V7,(((((wc.setCell ⟨d,0,none⟩ (.slice (some ⟨g,0,none⟩) n n)).setCell ⟨s.g1,D*4,none⟩ (.slice a0 r c0)).setCell ⟨s.g1,D*4+1,none⟩ (.slice a1 16 16)).setCell ⟨s.g1,D*4+2,none⟩ (.slice none 0 0)).setCell ⟨s.g1,D*4+3,none⟩ (.slice none 0 0)).drew=V7:=⟨_,rfl⟩
   have b4:Hid (zdM w0 d me q (.returned (.tuple #[.int .i64 0,.int .i64 0])) ((V7.setCell ⟨s.g2,D,none⟩ (.slice none 0 0)).setCell ⟨s.g3,D,none⟩ (.slice none 0 0)).drew):=by
    obtain⟨o,s', h1,h2,h3⟩:=b3.out;rw[<- a5,zpg,zpg];exact⟨o,s', h1,h2,h3.below (yk _ _).drew.drew⟩
   have far:∀ j,j≠d->j≠s.g1->V7.heap[j]?=wc.heap[j]?:=fun j h1 h2=>by rw[<- a5];exact zwP wc h1 h2
   have d5:V7.heap[d]?=some (.cells #[.slice (some ⟨g,0,none⟩) n n,.slice (some ⟨s.g1,0,none⟩) n n,.slice (some ⟨s.g2,0,none⟩) n n,.slice (some ⟨s.g3,0,none⟩) n n,.slice s.a4 nt s.c4] 28 (0,0)):=by
    rw[<- a5];show ((((((wc.setCell ⟨d,0,none⟩ (.slice (some ⟨g,0,none⟩) n n)).setCell ⟨s.g1,D*4,none⟩ (.slice a0 r c0)).setCell ⟨s.g1,D*4+1,none⟩ (.slice a1 16 16)).setCell ⟨s.g1,D*4+2,none⟩ (.slice none 0 0)).setCell ⟨s.g1,D*4+3,none⟩ (.slice none 0 0))).heap[d]?=_;rw[ys _ _ _ _ d1,ys _ _ _ _ d1,ys _ _ _ _ d1,ys _ _ _ _ d1];exact e9.out
   rw[a5];clear a5 b3 b7 b8 e4 e5 e6 e7 h7 z0 z1 z2 z3 j0 j1 j2 j3;obtain⟨_,_,v2,v3,_,vf,vl⟩:=zaj d5;have u2:=(yB (far s.g2 e2 b9)).trans p2;have u3:=(yB (far s.g3 e3 c6)).trans p3;have w2:=(yC (far s.g2 e2 b9)).trans f2;have l7:=(yC (far s.g3 e3 c6)).trans f3;have y7:=(yB (far V.heap.size h8 h9)).trans yy;clear p2 p3 f2 f3 yy far d5
   go_region_held3 (fun F=>F.cell? ⟨d,2,none⟩=some (.slice (some ⟨s.g2,0,none⟩) n n)/\F.cell? ⟨d,3,none⟩=some (.slice (some ⟨s.g3,0,none⟩) n n)/\F.cell? ⟨V.heap.size,4,none⟩=some (.int .i64 (D:Int))) (go_keep) (fail)
   go_wp2
   exact yv (v:=.tuple #[.int .i64 0,.int .i64 0]) (by simp[results,Tryz.results117,go_sem]) rfl b4.out
 ·have hN:q.e=E/\q.w=W:=⟨HI.out.1,HI.out.2.2 U⟩;have M:Hid _:=hN;have hz:(E == 0)=false:=by simp[U]
  have DD:Hid (∀ O,Below V.heap.size V O->Calls _ _ _ _ _):=D0.out U;clear HI hN D0 D1
  go_region_held3 (fun F=>F.cell? ⟨d,0,none⟩=some (.slice s.a0 n s.c0)/\F.cell? ⟨V.heap.size,4,none⟩=some (.int .i64 (D:Int))/\F.cell? ⟨V.heap.size,1,none⟩=some (.int .i64 xa)) (go_keep) (first|(go_at_call 141;refine ye (DD.out V1.drew BV.out.drew) ?_;rintro e w3 ⟨rfl,a6⟩;have T:Hid (Below V1.heap.size V1 w3):=(yk _ _).drew.trans a6;have c7:=zab l0 T.out;have c9:=zab y4 T.out;have c8:=zab y1 T.out;clear a6))
  go_wp2
  exact yv (v:=.tuple #[.int .i64 0,.int .i64 E]) (by simp[results,Tryz.results117,go_sem]) rfl ⟨0,s,by rw[M.out.1],fun h=>absurd (M.out.1.symm.trans h) U,by rw[M.out.2];exact II.out.below (BV.out.trans (T.out.mono BV.out.size))⟩
def Sm(e:Int):Prop:=0<=e/\e<=20
theorem zpO:∀ {l:List Int},(∀ e ∈ l,Sm e)->Sm (zao l)
 | [],_=>⟨Int.le_refl _,by decide⟩
 | e :: l,h=>by
  show Sm (if e=0 then zao l else e);split
  ·exact zpO (fun e D=>h e (List.mem_cons_of_mem _ D))
  ·exact h e (List.mem_cons_self)
theorem zbc{p:Prop}[Decidable p]{a b:Int}(ha:Sm a)(D:Sm b):Sm (if p then a else b):=by split <;> assumption
theorem sm0:Sm 0:=⟨by decide,by decide⟩
theorem sm1:Sm 1:=⟨by decide,by decide⟩
theorem sm2:Sm 2:=⟨by decide,by decide⟩
theorem sm3:Sm 3:=⟨by decide,by decide⟩
theorem sm4:Sm 4:=⟨by decide,by decide⟩
theorem sm5:Sm 5:=⟨by decide,by decide⟩
theorem sm6:Sm 6:=⟨by decide,by decide⟩
theorem sm7:Sm 7:=⟨by decide,by decide⟩
theorem sm8:Sm 8:=⟨by decide,by decide⟩
theorem zpQ(S:List Nd)(p u:Int):Sm (zda S p u):=by
 unfold zda ztc;exact zbc (zbc (zbc (zbc sm0 sm5) sm5) sm4) sm4
theorem zpP(S:List Nd):∀ hs,Sm (zfd S hs)
 | []=>sm0
 | h :: r=>zbc (zpP S r) (zpQ _ _ _)
theorem zdS{S:List Nd}(h:zbr S=0)(p u:Int):Sm (zaC S p u):=by
 unfold zaC;rw[yb h];exact zpQ _ _ _
theorem zuz{S:List Nd}(h:zbr S=0)(t:Int):Sm (zfl S t):=by
 unfold zfl;rw[yb h];exact zbc (zbc sm0 sm1) sm2
theorem zpN(m:Nat):∀ l,Sm (cellsE m l)
 | []=>sm0
 | x :: l=>zbc (zpN m l) (zbc sm2 (zbc sm1 (zbc sm4 sm0)))
theorem zwS(G:List Cl):Sm (zaz G):=zbc sm1 (zpN _ _)
theorem zjG(L:List Fr)(k:Int):Sm (zax L k):=zbc sm4 (zbc sm5 sm0)
theorem zAa{L:List Fr}(h:zaO L=0)(f t x:Int):Sm (zdF L f t x):=by
 have h1:Sm (zfh L [f,t]):=by
  rw[zed,h];exact zbc sm0 (zbc (zjG _ _) (zjG _ _))
 exact zbc h1 (zbc sm3 (zbc sm0 sm7))
theorem zfY{E:Int}{R:Rl}{o:Int}(h:Sm E):Sm (ans E R o).e:=by
 unfold ans;split
 ·exact sm0
 ·exact h
theorem zwT{L:List Pt}{F:Int}(h:zbf L F=0)(k o t:Int):Sm (zaU L F k o t):=by
 unfold zaU;rw[h];exact zbc sm0 (zbc sm4 (zbc sm7 (zbc sm5 sm0)))
theorem zpR{R:Rl}(h:zbr R.s=0)(n:Int):Sm (zbk R n):=by
 have h1:∀ m,Sm (zcq R m):=fun m=>by
  induction m with
  | zero=>exact sm0
  | succ m D=>exact zbc (zdS h _ _) D
 exact zbc (h1 _) sm2
theorem zdc{p:Prop}[Decidable p]{a b:Rs}(ha:Sm a.e)(D:Sm b.e):Sm (if p then a else b).e:=by split <;> assumption
theorem zpS:∀ (q:List Tst) (i:Nat),Sm (zeV i q)
 | [],_=>sm0
 | te :: r,k=>zbc (zbc sm3 (zpS r (k+1))) sm2
theorem zAG{R:Rl}(F:zaE R=0)(x:Ac):Sm (doF R x).e:=by
 have h:zbr R.s=0:=(zfz _).2 (zay F).1;unfold doF;rw[yb F];have E:∀ g n,Sm (zxg R g n).e:=fun g n=>zfY (zbc (zbc sm0 sm2) (zdS h _ _))
 have D:∀ g1 g2 hs,Sm (zdN R g1 g2 hs).e:=fun g1 g2 hs=>zfY (by
  have I:Sm (zbd R.s ((g1.1,g1.2) ::(g2.1,g2.2) :: hs)):=by
   unfold zbd;rw[yb h];exact zpP _ _
  unfold zjS;refine zbc (zbc ?_ sm6) I
  cases hs with
  | nil=>exact sm0
  | cons a l=>exact zbc sm0 sm6)
 unfold doG;refine zdc (zdc (zfY (zuz h _)) (zdc (zfY (zbc (zbc sm0 sm6) (zdS h _ _))) (zdc (zfY (zbc (zbc sm6 sm0) (zdS h _ _))) (zdc (zfY (zdS h _ _)) (zdc (E _ _) (zdc (zdc (E _ _) sm4) (zdc (zfY (zbc (zbc (zpS _ _) sm1) (zdS h _ _))) (zdc (zfY (zdS h _ _)) (zdc (zdc (zdc (zfY (zbc (zbc sm6 (zuz h _)) (zdS h _ _))) (zdc (zfY (zbc (zbc sm6 sm0) (zdS h _ _))) (zdc (D _ _ _) (zdc (D _ _ _) sm4)))) sm4) sm3))))))))) sm4
theorem zdC{Es:List Int}{W V:Wl}{o:Int}(h:∀ e ∈ Es,Sm e):Sm (zeN Es W V o).e:=by
 have e:(zeN Es W V o).e=zao Es:=by
  unfold zeN;split
  ·rename_i h;exact h.symm
  ·rfl
 rw[e];exact zpO h
theorem zdT{p:Prop}[Decidable p]{a b:Ws}(ha:Sm a.e)(D:Sm b.e):Sm (if p then a else b).e:=by split <;> assumption
theorem zrB{a:Int}(ha:Sm a):∀ e ∈ [a],Sm e:=fun e D=>by
 simp only[List.mem_cons,List.not_mem_nil,or_false] at D;subst D;exact ha
theorem zzZ{a b:Int}(ha:Sm a)(E:Sm b):∀ e ∈ [a,b],Sm e:=fun e D=>by
 simp only[List.mem_cons,List.not_mem_nil,or_false] at D;rcases D with rfl|rfl
 ·exact ha
 ·exact E
theorem zyG{a b c:Int}(ha:Sm a)(E:Sm b)(hc:Sm c):∀ e ∈ [a,b,c],Sm e:=fun e D=>by
 simp only[List.mem_cons,List.not_mem_nil,or_false] at D;rcases D with rfl|rfl|rfl
 ·exact ha
 ·exact E
 ·exact hc
theorem zzY{W:Wl}(H:zan W){k:Nat}(J:k<W.fs.length)(x:Ac):Sm (zdh W k x).e:=by
 have I:zaO W.fs=0:=zdv.2 H.fs;have M:zbf W.pt (many W)=0:=zcH.2 H.pt;have O:zbr (rlm W k).s=0:=(zfz _).2 (zay (H.rs k J)).1;have E:∀ t x,Sm (zdF W.fs k t x):=fun t x=>zAa I _ _ _;have F:∀ n t,Sm (zaU W.pt (many W) n k t):=fun n t=>zwT M _ _ _
 have D:∀ a b,Sm (zpU W k a b).e:=fun a b=>by
  by_cases h:zdF W.fs k a 1=0
  ·obtain⟨q,rfl,T,_⟩:=zdy (zbR h).2.2.1;exact zdC (zyG (E _ _) (zbc sm0 sm4) (zdS ((zfz _).2 (zay (H.rs _ (by rw[yi];exact T))).1) _ _))
  ·unfold zpU zeN;have e:zao [zdF W.fs k a 1,if isH b then 0 else 4,zaC (rlm W a.toNat).s (hd (rlm W a.toNat) b).1 (hd (rlm W a.toNat) b).2]=zdF W.fs k a 1:=ya h;rw[e,ya h];exact E _ _
 unfold zdh;refine zdT (zdC (zrB (E _ _))) (zdT (zdC (zrB (E _ _))) (zdT (D _ _) (zdT (zdC (zyG (E _ _) (zpR O _) (zbc sm1 sm0))) (zdT (zdC (zzZ (E _ _) ?_)) (zdT (zdC (zrB ?_)) (zdT (zdC (zzZ (E _ _) (zbc (F _ _) (zbc sm4 (zbc sm2 sm0))))) (zdT (zdC (zyG (zbc sm7 sm0) (zpR O _) (zbc (F _ _) (zbc (zwS _) (zbc sm5 (zbc sm1 sm0)))))) (zdT (zdC (zrB (zbc (F _ _) (zbc sm8 sm0)))) (zdT (zdC (zrB (F _ _))) (zdC (zrB (zAG (H.rs k J) x))))))))))))
 ·unfold goE zcs;rw[yb I];exact zbc (zjG _ _) (zbc sm2 (zbc sm1 sm0))
 ·unfold zfq;rw[M];exact zbc sm0 (zbc sm4 (zbc sm2 (zbc sm1 sm0)))
end Go.Proofs.YtcbcpomacdngmaaGreat
