/-
  x
-/
import Derived.Test.YtcbcpomacdngmaaGreatA44
namespace Go.Proofs.YtcbcpomacdngmaaGreat
set_option maxRecDepth 100000
set_option maxHeartbeats 4000000
set_option linter.unusedVariables false
open Go.RowKit Go.ChangeShapes Go.WideShapes Tryz
variable{u0 u1:Value}{D:Nat}
theorem Yn:(prog.info? 53).map (fun i=>(i.zero,i.size,i.bytes))=some (some (.agg #[.int .i64 0,.slice none 0 0]),2,32):=oad
theorem Yo{w:Wd}{b:Nat}(c0:w.cell? ⟨b,0,none⟩=some u0)(c1:w.cell? ⟨b,1,none⟩=some u1):∀ j u,([u0,u1]:List Value)[j]?=some u->w.cell? ((⟨b,0,none⟩:Addr).add j)=some u:=fun j u D=>by
 rw[Addr.add_lit,yD]
 match j,D with
 | 0,D=>cases D;exact c0
 | 1,D=>cases D;exact c1
theorem Yp(me:Nat)(W:Wl)(x:Ac)(hm:bG W.fs me x.a 3=0):lV 114 #[] (fun _=>True) me W x (bP [dN (rlm W me) x.n,if (que W x.a.toNat).length=16 then 1 else 0] W { W with qs:=W.qs.set x.a.toNat (que W x.a.toNat++[⟨me,bO (rlm W me) x.n.toNat⟩]) } 0):=fun w0 d s V I _=>by
 have QI:=pV [dN (rlm W me) x.n,if (que W x.a.toNat).length=16 then 1 else 0] W { W with qs:=W.qs.set x.a.toNat (que W x.a.toNat++[⟨me,bO (rlm W me) x.n.toNat⟩]) } 0;rw[ZP] at QI;obtain⟨q,e1⟩:∃ q,bP [dN (rlm W me) x.n,if (que W x.a.toNat).length=16 then 1 else 0] W { W with qs:=W.qs.set x.a.toNat (que W x.a.toNat++[⟨me,bO (rlm W me) x.n.toNat⟩]) } 0=q:=⟨_,rfl⟩;rw[e1] at QI |-;clear e1;have HR:Hid (dN (rlm W me) x.n=0->(que W x.a.toNat).length≠16->aI { W with qs:=W.qs.set x.a.toNat (que W x.a.toNat++[⟨me,bO (rlm W me) x.n.toNat⟩]) }):=fun h1 h2=>EO I.rt I.sf (by rw[ZO,hm,h1,ye rfl,ye rfl,yd h2]);obtain⟨ka,d9,b7,_⟩:=iV (kP hm).2.2.1;obtain⟨xk,xa,xb,xc,xn⟩:=x;have II:Hid (SW w0 d me W s V):=I;have e2:=I.lt;have e6:Hid _:=e2;obtain⟨l0,l1,l2,l3,l4,lf,ll⟩:=bH I.box;have j1:d<V.heap.size:=ll;have n8:W.fs.length<=8:=I.rt.fs.few;have h4:me<W.fs.length:=I.sf;clear e2;dsimp only at d9 QI HR |-;subst d9;rw[yk] at QI HR;clear hm;obtain⟨k0,k1,k2,k3,kf,kl⟩:=I.rcells I.sf;have cq:V.cell? ⟨s.g3,ka,none⟩=some (.slice (s.Q ka).1 (que W ka).length (s.Q ka).2):=I.r3.cell b7;have i6:(que W ka).length<=16:=(nA.1 (I.rt.qs ka b7)).1;have D:Hid (∀ V2,Bl V V2->Calls _ _ _ _ _):=fun V2 hV=>ZN (s.R me) (rlm W me) xn V2 (I.rt.rs me I.sf) ((I.rat I.sf).below hV);have j2:s.g3<V.heap.size:=I.r3.lt
 have nq:∀ j,(j=d\/j=s.g3\/V.heap.size<=j)->s.q ka≠some j:=fun j hj e=>by
  have h1:=I.ap.qq ka j e;have h2:=I.dp.lt (n:=0) I.ap j (.inr ⟨ka,e⟩);rcases hj with h|h|h
  ·exact h1.2.1 h
  ·exact h1.2.2.2.2.1 h
  ·omega
 dsimp only[rlV] at D;show yO _ #[.pointer (some ⟨d,0,none⟩),.int .i64 (me:Int),.agg #[.int .i64 xk,.int .i64 (ka:Int),.int .i64 xb,.int .i64 xc,.int .i64 xn]] V _;obtain⟨n,hn⟩:∃ n,W.fs.length=n:=⟨_,rfl⟩;have HN:Hid (W.fs.length=n):=hn;obtain⟨nt,b9⟩:∃ n,W.pt.length=n:=⟨_,rfl⟩;have i9:Hid (W.pt.length=nt):=b9;rw[b9] at l4;have g9:ka<n:=oaa
 rw[hn] at l0 l1 l2 l3 n8 h4;have MG:Hid (dN (rlm W me) xn=0->mkG (rlm W me) xn=bO (rlm W me) xn.toNat):=fun h=>ye h;generalize (rlm W me).s.length=r0 at *;generalize (rlm W me).hs.length=r1 at *;generalize (rlm W me).i.length=r2 at *;generalize (rlm W me).t.length=r3 at *;clear hn b9 I b7;have i8:(me:Int)<(n:Int):=oaa
 have i7:(ka:Int)<(n:Int):=oaa
 obtain⟨E1,b5⟩:∃ E,dN (rlm W me) xn=E:=⟨_,rfl⟩;have d4:Hid (dN (rlm W me) xn=E1):=b5;rw[b5] at MG QI HR;clear b5;obtain⟨W', b6⟩:∃ W' : Wl,({ W with qs:=W.qs.set ka (que W ka++[⟨me,bO (rlm W me) xn.toNat⟩]) }:Wl)=W' :=⟨_,rfl⟩;have b3:Hid (_=W'):=b6;rw[b6] at QI HR;clear b6;have HI:Hid _:=QI;clear QI
 go_enter func114,ntmps114
 go_upto_region 1 with fail
 obtain⟨M,d6,BV,y0,y1,y2,y3,y4,sV⟩:=lU V xk (ka:Int) xb xc xn;rw[d6];clear d6;replace l0:=aA l0 BV;replace l1:=aA l1 BV;replace l2:=aA l2 BV;replace l3:=aA l3 BV;replace l4:=aA l4 BV;replace k0:=aA k0 BV;replace k1:=aA k1 BV;replace k2:=aA k2 BV;replace k3:=aA k3 BV;have n0:¬ M.heap.size=d:=oaa
 have o0:¬ d=M.heap.size:=oaa
 have n1:¬ M.heap.size=s.g1:=oaa
 have o1:¬ s.g1=M.heap.size:=oaa
 have n2:¬ M.heap.size=V.heap.size:=oaa
 have o2:¬ V.heap.size=M.heap.size:=oaa
 have j4:d<M.heap.size:=oaa
 have j5:s.g1<M.heap.size:=oaa
 obtain⟨GG,d5⟩:∃ G,mkG (rlm W me) xn=G:=⟨_,rfl⟩;have a6:Hid (mkG (rlm W me) xn=GG):=d5;clear d5;have c9:Hid _:=cq;have e5:Hid _:=nq;clear cq nq
 go_cut [8,9] (fun s8 s9 wx=>∃ (b:Nat) (ga:OA) (gc:Nat),s8=.pointer (some ⟨b,0,none⟩)/\s9=.int .i64 E1/\Hid (Bl M wx)/\Hid (wx.heap[b]?=some (.cells #[.slice ga GG.length gc] 47 (0,0)))/\M.heap.size<=b/\Hid (St (fun b=>b<M.heap.size) (fun V=>aO V ga GG) wx))
 case first =>
  go_region_held3 (fun T=>T.cell? ⟨d,1,none⟩=some (.slice (some ⟨s.g1,0,none⟩) n n)/\T.cell? ⟨s.g1,me*4,none⟩=some (.slice (s.R me).a0 r0 (s.R me).c0)/\T.cell? ⟨s.g1,me*4+1,none⟩=some (.slice (s.R me).a1 r1 (s.R me).c1)/\T.cell? ⟨s.g1,me*4+2,none⟩=some (.slice (s.R me).a2 r2 (s.R me).c2)/\T.cell? ⟨s.g1,me*4+3,none⟩=some (.slice (s.R me).a3 r3 (s.R me).c3)/\T.cell? ⟨V.heap.size,4,none⟩=some (.int .i64 xn)) (go_keep) (first|(go_at_call 139;refine yj (D M.drew BV.drew) ?_;rintro e w3 ⟨ga,gc,rfl,a7,a5⟩;rw[a6.out,d4.out];rw[a6.out] at a5;have Z:Hid (Bl M w3):=(yv _ _).drew.trans a7;have C3:Hid (St (fun b=>b<M.heap.size) (fun V=>aO V ga GG) w3):=a5;have g4:=aA l1 Z;have e7:=aA k0 Z;have e8:=aA k1 Z;have e9:=aA k2 Z;have g0:=aA k3 Z;have g5:=aA y4 Z;clear a7 a5)|(go_at_call 139;refine yj (D (M.alloc (.cells #[.slice none 0 0] 47)).drew (BV.trans ((aB M _).mono BV.size)).drew) ?_;rintro e w3 ⟨ga,gc,rfl,a7,a5⟩;rw[a6.out,d4.out];rw[a6.out] at a5;have Z:Hid (Bl M w3):=(aB M _).drew.trans (a7.mono oac);have C3:Hid (St (fun b=>b<M.heap.size+1) (fun V=>aO V ga GG) w3):=(by have h:=a5;simp only[yw,World.size_drew] at h;exact h);have g4:=aA l1 Z;have e7:=aA k0 Z;have e8:=aA k1 Z;have e9:=aA k2 Z;have g0:=aA k3 Z;have g5:=aA y4 Z;have X3:Hid (w3.heap[M.heap.size]?=some (.cells #[.slice none 0 0] 47 (0,0))):=aH (W:=(M.alloc (.cells #[.slice none 0 0] 47)).drew) (yN M _) a7;have x0:=cZ X3.out;have xf:=iB (o:=0) X3.out;have xl:M.heap.size<w3.heap.size:=aR X3.out;clear a7 a5))
  ·go_wp2_with fail
   go_meet
   case rel=>exact⟨_,ga,gc,rfl,rfl,Z.trans ((aB _ _).mono Z.size),yN _ _,Z.size,C3.off (aC.of_below (aB _ _))⟩
  ·go_wp2_with fail
   go_meet
   case rel=>exact⟨_,ga,gc,rfl,rfl,Z.setCell (yr _) _,wN X3.out,yr _,(C3.off (aC.set _ _ (Nat.lt_succ_self _))).less (fun b hb=>Nat.lt_succ_of_lt hb)⟩
 case rest =>
  obtain⟨b,ga,gc,rfl,rfl,HB,HX,j0,HC⟩:=hcut;have BW:Hid (Bl V wc):=BV.trans (HB.mono BV.size);have I2:Hid _:=II.below BW;clear l0 l1 l2 l3 l4 k0 k1 k2 k3 D;by_cases hE:E1=0
  ·subst hE;have eG:GG=bO (rlm W me) xn.toNat:=a6.symm.trans (MG rfl);rw[<- eG] at b3;have b4:Hid _:=b3.out;obtain⟨i1,i2,i3,c3,i4,i5,j6⟩:=bH I2.box;rw[HN.out] at c3;have cq:=aA c9 BW;have cy:=aA y1 HB;have cb:=cZ HX.out;have h6:V.heap.size<=b:=oaa;have j3:M.heap.size<=wc.heap.size:=HB.size;clear eG a6 MG c9 y0 y1 y2 y3 y4 i1 i2 i3 i4 i5;obtain⟨m,b8⟩:∃ m,(que W ka).length=m:=⟨_,rfl⟩;have b2:Hid (_=m):=b8;rw[b8] at cq i6 HR HI;clear b8;by_cases a8:m=16
   ·subst a8;have U:=HI.out;rw[ye rfl,ye rfl] at U;have hN:q.e=1/\q.w=W:=⟨U.1,U.2.2 oae⟩;have O:Hid _:=hN;clear HI U hN
    go_wp2_with fail
    go_region
    go_wp2
    exact yz (v:=.tuple #[.int .i64 0,.int .i64 1]) (by simp[results,results114,go_sem]) rfl ⟨0,s,by rw[O.out.1],fun h=>absurd (O.out.1.symm.trans h) oae,by rw[O.out.2];exact I2.below (yv _ _).drew⟩
   ·have hz:((m:Int) == 16)=false:=oab;have U:=HI.out;rw[ye rfl,yd a8] at U;have hN:q.e=0/\q.w=W' /\ q.o=0:=⟨U.1,U.2.1 rfl⟩;have O:Hid _:=hN;clear HI U hN;have nq:=e5.out;generalize d7:GG.length=gl at *;have e4:Hid (GG.length=gl):=d7;clear d7
    go_wp2_with fail
    go_region
    go_wp2_with fail
    obtain⟨F,b0⟩:∃ F,F=wc.drew:=⟨_,rfl⟩;have B6:Hid (Bl wc F):=(by rw[b0];exact(yv _ _).drew);have s6:F.heap.size=wc.heap.size:=(by rw[b0];simp);rw[<- b0];clear b0;replace c3:=aA c3 B6;replace cy:=aA cy B6;replace cq:=aA cq B6;replace cb:=aA cb B6;have I7:Hid (SW w0 d me W s (F.drew.alloc (.cells #[.int .i64 me,.slice ga gl gc] 53))):=(I2.below B6).below ((yv F.heap.size F).drew.alloc (yr _) (.cells #[.int .i64 me,.slice ga gl gc] 53));obtain⟨qs,c6⟩:∃ q,iL (que W ka) (s.G ka)=q:=⟨_,rfl⟩;have d8:ka<W.fs.length:=(by rw[HN.out];exact g9);have HA:Hid (App (SX w0.heap.size d s) w0.heap.size 53 2 (s.Q ka).1 m (s.Q ka).2 qs (s.q ka) (F.drew.alloc (.cells #[.int .i64 me,.slice ga gl gc] 53))):=(by have h:=I7.dp.qs ka d8;rw[c6,b2.out] at h;exact h);have c8:Hid (St (SX w0.heap.size d s) (fun V=>aO V ga GG) (F.drew.alloc (.cells #[.int .i64 me,.slice ga gl gc] 53))):=((HC.off (aC.of_below B6.out)).off (aC.of_below ((yv F.heap.size F).drew.alloc (yr _) (.cells #[.int .i64 me,.slice ga gl gc] 53)))).less (fun b hb=>yC (e6 b hb) BV.size);have g6:w0.heap.size<=(F.drew.alloc (.cells #[.int .i64 me,.slice ga gl gc] 53)).heap.size:=I7.bel.size;have FZ:Hid (∀ w9,(F.drew.alloc (.cells #[.int .i64 me,.slice ga gl gc] 53)).grownBy w9 (s.q ka)->w9.frozen? ⟨s.g3,ka,none⟩=false):=fun w9 hg=>(yF (hg.block s.g3 I7.r3.lt (fun e=>nq s.g3 (.inr (.inl rfl)) e.symm))).trans (I7.r3.frozen _)
    have c7:Hid (∀ g cap w9,(F.drew.alloc (.cells #[.int .i64 me,.slice ga gl gc] 53)).grownBy w9 (s.q ka)->w9.ownsRow w0.heap.size 53 2 (.slice (some ⟨g,0,none⟩) (m+1) cap) (m+1) (qs++[.int .i64 me,.slice ga gl gc])->(s.q ka=some g\/(F.drew.alloc (.cells #[.int .i64 me,.slice ga gl gc] 53)).heap.size<=g)->gT w0 d me q (.returned (.tuple #[.int .i64 0,.int .i64 0])) (w9.setCell ⟨s.g3,ka,none⟩ (.slice (some ⟨g,0,none⟩) (m+1) cap))):=fun g cap w9 g7 e0 h3=>by
     have hR:=HR.out (by trivial) a8;rw[<- b4.out] at hR;have h1:=I7.mail (k:=ka) (m:=⟨me,GG⟩) (ga:=(ga,gc)) (g:=g) (cap:=cap) d8 c8.out g7 (by rw[c6,b2.out,e4.out];exact e0) h3 hR rfl;rw[b2.out,b4.out] at h1;rw[<- O.out.2.1] at h1;exact⟨0,_,by rw[O.out.1],fun _=>O.out.2.2.symm,h1⟩
    clear c6 I7 c8 HR b4 b3;generalize s.q ka=qt at *;generalize s.Q ka=Qk at *;obtain⟨qa,qc⟩:=Qk;dsimp only at cq HA;obtain⟨i0,g8,h7,h8,h9⟩:=info_parts Yn;refine wp_region_noPanic ?_;refine FV (S:=fun T=>T.cell? ⟨d,3,none⟩=some (.slice (some ⟨s.g3,0,none⟩) n n)/\T.cell? ⟨V.heap.size,1,none⟩=some (.int .i64 (ka:Int))/\T.cell? ⟨s.g3,ka,none⟩=some (.slice qa m qc)/\T.cell? ⟨b,0,none⟩=some (.slice ga gl gc)) 20 oad (by(try dsimp only);go_keep) (fun hHeld=>?_);refine aY (i:=0) ?_;simp[Act.put];refine aY (i:=1) ?_;simp[Act.put];refine aY (i:=2) ?_;simp[Act.put];refine aY (i:=3) ?_;simp[Act.put];refine aY (i:=4) ?_;simp[Act.put];refine aY (i:=5) ?_;simp[Act.put];refine aY (i:=6) ?_;simp[Act.put];refine aY (i:=7) ?_;simp[Act.put];refine aY (i:=8) ?_;simp[Act.put];refine aY (i:=9) ?_;simp[Act.put];refine aY (i:=10) ?_;simp[Act.put];refine aY (i:=11) ?_;simp[Act.put];refine aY (i:=12) ?_;simp[Act.put];refine aY (i:=13) ?_;simp[Act.put];refine aY (i:=14) ?_;simp[Act.put];refine aY (i:=15) ?_;simp[Act.put];refine aY (i:=16) ?_;simp[Act.put];refine nJ (i:=17) oad rfl (fun K hK=>?_);go_simp;refine hK.out _ _ ?_ (fun hHeld=>?_)
    ·exact⟨aA c3 ((yv F.heap.size F).drew.alloc (yr _) (.cells #[.int .i64 me,.slice ga gl gc] 53)),aA cy ((yv F.heap.size F).drew.alloc (yr _) (.cells #[.int .i64 me,.slice ga gl gc] 53)),aA cq ((yv F.heap.size F).drew.alloc (yr _) (.cells #[.int .i64 me,.slice ga gl gc] 53)),aA cb ((yv F.heap.size F).drew.alloc (yr _) (.cells #[.int .i64 me,.slice ga gl gc] 53))⟩
    clear hK K hHeld
    try simp[Act.put]
    refine nJ (i:=18) oad rfl (fun K hK=>?_);refine OG (F.drew.alloc (.cells #[.int .i64 me,.slice ga gl gc] 53)) rfl (.tmp 49) (.tmp 53) 51 rfl 53 i0 (.agg #[.int .i64 0,.slice none 0 0]) 2 32 underlying51 g8 h7 h8 h9 rfl oae qa m qc qs qt HA.out g6 rfl ⟨F.heap.size,0,none⟩ 1 1 [.int .i64 me,.slice ga gl gc] (by simp[Act.eval]) rfl (Yo (aK F.drew _ _ 0 rfl) (aK F.drew _ _ 1 rfl)) (by intro u hu;simp at hu;rcases hu with rfl|rfl <;> rfl) oae oai oaa ?_;intro g cap w9 b1 J a9 j7;have t3:w9.cell? ⟨d,3,none⟩=some (.slice (some ⟨s.g3,0,none⟩) n n):=J.cell (a:=⟨d,3,none⟩) (aA c3 ((yv F.heap.size F).drew.alloc (yr _) (.cells #[.int .i64 me,.slice ga gl gc] 53))) (fun e=>nq d (.inl rfl) e.symm);have ty:w9.cell? ⟨V.heap.size,1,none⟩=some (.int .i64 (ka:Int)):=J.cell (a:=⟨V.heap.size,1,none⟩) (aA cy ((yv F.heap.size F).drew.alloc (yr _) (.cells #[.int .i64 me,.slice ga gl gc] 53))) (fun e=>nq _ (.inr (.inr (yr _))) e.symm);have tq:w9.cell? ⟨s.g3,ka,none⟩=some (.slice qa m qc):=J.cell (a:=⟨s.g3,ka,none⟩) (aA cq ((yv F.heap.size F).drew.alloc (yr _) (.cells #[.int .i64 me,.slice ga gl gc] 53))) (fun e=>nq _ (.inr (.inl rfl)) e.symm);have tb:w9.cell? ⟨b,0,none⟩=some (.slice ga gl gc):=J.cell (a:=⟨b,0,none⟩) (aA cb ((yv F.heap.size F).drew.alloc (yr _) (.cells #[.int .i64 me,.slice ga gl gc] 53))) (fun e=>nq b (.inr (.inr h6)) e.symm);have f9:w9.frozen? ⟨s.g3,ka,none⟩=false:=FZ.out w9 J
    have e3:Hid _:=c7.out g cap w9 J b1 a9;refine hK.out _ _ ?_ (fun hHeld=>?_)
    ·exact⟨t3,ty,tq,tb⟩
    clear hK K b1 J a9 c7 FZ
    try simp[Act.put]
    refine aY (i:=19) ?_;simp[Act.put];clear hHeld;refine FP oad rfl (fun K hK=>?_);go_simp;refine hK.out _ _ ?_;clear hK K
    try simp[Act.put]
    refine FQ oad ?_ _;refine NoPanic.normal ?_
    go_wp2
    exact yz (v:=.tuple #[.int .i64 0,.int .i64 0]) (by simp[results,results114,go_sem]) rfl e3.out
  ·have hN:q.e=E1/\q.w=W:=⟨by rw[HI.out.1,yd hE],HI.out.2.2 (by rw[yd hE];exact hE)⟩;have O:Hid _:=hN;have hz:(E1 == 0)=false:=(by simp[hE]);clear HI hN HR
   go_wp2
   exact yz (v:=.tuple #[.int .i64 0,.int .i64 E1]) (by simp[results,results114,go_sem]) rfl ⟨0,s,by rw[O.out.1],fun h=>absurd (O.out.1.symm.trans h) hE,by rw[O.out.2];exact I2.out⟩
theorem SW.moved{J:W0}{d me:Nat}{W:Wl}{s:SD}{V:Wd}(I:SW J d me W s V){g c0 r:Nat}{a0 a1:OA}{o:Int}(Z:D<W.fs.length)(O:goE W.fs D o=0)(hf:St (SX J.heap.size d s) (fun V=>aS V (some ⟨g,0,none⟩) (goF W.fs D o)) V)(hn:St (SX J.heap.size d s) (fun V=>aD V a0 (List.replicate r fH)/\aZ V a1 (List.replicate 16 (0,0))) V)(hr:(rlm W D).s.length=r) :
  ∃ s', SW J d me { fs:=goF W.fs D o,rs:=W.rs.set D (bB r),ps:=W.ps.set D [],qs:=W.qs.set D [],pt:=W.pt } s' (((((((V.setCell ⟨d,0,none⟩ (.slice (some ⟨g,0,none⟩) W.fs.length W.fs.length)).setCell ⟨s.g1,D*4,none⟩ (.slice a0 r c0)).setCell ⟨s.g1,D*4+1,none⟩ (.slice a1 16 16)).setCell ⟨s.g1,D*4+2,none⟩ (.slice none 0 0)).setCell ⟨s.g1,D*4+3,none⟩ (.slice none 0 0)).setCell ⟨s.g2,D,none⟩ (.slice none 0 0)).setCell ⟨s.g3,D,none⟩ (.slice none 0 0)):=by
 have hl:=nV W.fs (D:Int) o;have n8:=I.rt.fs.few;have hs:r<=24:=by rw[<- hr];exact(gI (I.rt.rs D Z)).1.small
 obtain⟨n1,M⟩:=LG r hs;have F:=I.frames (a:=some ⟨g,0,none⟩) (c:=W.fs.length) (L:=goF W.fs D o) hf hl (aI.frames I.rt (VC O) hl) ⟨(fun e=>by cases e),by rw[hl];exact yr _,oaa⟩;have ho:aC (SX J.heap.size d s) V (V.setCell ⟨d,0,none⟩ (.slice (some ⟨g,0,none⟩) W.fs.length W.fs.length)):=aC.set V _ (.inr (.inl rfl));have E:D<(goF W.fs D o).length:=by rw[hl];exact Z
 have R:=F.realm (k:=D) (A:=⟨a0,a1,none,none,c0,16,0,0⟩) (Q:=bB r) E n1 (by rw[M];exact fun T h=>⟨(hn.off ho T h).1,(hn.off ho T h).2,fun _ h=>absurd h (yB _)⟩) (by rw[M];exact fun _ _ _ h=>absurd h (yB _)) (fun _=>⟨by rw[M];rfl,fun U h=>oah⟩) rfl;have P:=R.noprog (k:=D) E;have Q:=P.queue (k:=D) (a:=none) (c:=0) (q:=[]) (G:=fun _=>(none,0)) E (fun _ _ U h=>oah) ⟨fun _=>rfl,fun U h=>oah⟩ rfl (fun j hj=>absurd hj (yB _)) (aI.queue (q:=[]) P.rt E rfl);have e:(bB r).s.length=r/\(bB r).hs.length=16/\(bB r).i.length=0/\(bB r).t.length=0:=by rw[M];simp
 rw[e.1,e.2.1,e.2.2.1,e.2.2.2] at Q;exact⟨_,Q⟩
theorem ZR(w:Wd)(a:Addr)(v:Value):w.drew.setCell a v=(w.setCell a v).drew:=rfl
theorem Yv(w:Wd){F:Nat}{T I J M O:Nat}{v u2 u3:Value}{j:Nat}(h1:j≠F)(E:j≠D):(((((w.setCell ⟨F,T,none⟩ v).setCell ⟨D,I,none⟩ u0).setCell ⟨D,J,none⟩ u1).setCell ⟨D,M,none⟩ u2).setCell ⟨D,O,none⟩ u3).heap[j]?=w.heap[j]?:=by
 rw[yx _ _ _ _ E,yx _ _ _ _ E,yx _ _ _ _ E,yx _ _ _ _ E,yx _ _ _ _ h1]
theorem Yw(me:Nat)(W:Wl)(x:Ac)(hm:bG W.fs me x.n 5=0):lV 117 #[] (fun _=>True) me W x (bP [goE W.fs x.n x.a] W { fs:=goF W.fs x.n x.a,rs:=W.rs.set x.n.toNat (bB (rlm W x.n.toNat).s.length),ps:=W.ps.set x.n.toNat [],qs:=W.qs.set x.n.toNat [],pt:=W.pt } 0):=fun w0 d s V I _=>by
 have QI:=pV [goE W.fs x.n x.a] W { fs:=goF W.fs x.n x.a,rs:=W.rs.set x.n.toNat (bB (rlm W x.n.toNat).s.length),ps:=W.ps.set x.n.toNat [],qs:=W.qs.set x.n.toNat [],pt:=W.pt } 0;rw[wB] at QI;obtain⟨q,d8⟩:∃ q,bP [goE W.fs x.n x.a] W { fs:=goF W.fs x.n x.a,rs:=W.rs.set x.n.toNat (bB (rlm W x.n.toNat).s.length),ps:=W.ps.set x.n.toNat [],qs:=W.qs.set x.n.toNat [],pt:=W.pt } 0=q:=⟨_,rfl⟩;rw[d8] at QI |-;clear d8;obtain⟨D,d7,a9,_⟩:=iV (kP hm).2.2.1;obtain⟨xk,xa,xb,xc,xn⟩:=x;have II:Hid (SW w0 d me W s V):=I;have e0:=I.lt;have b6:Hid _:=e0;obtain⟨l0,l1,l2,l3,l4,lf,ll⟩:=bH I.box;have j6:d<V.heap.size:=ll;have n8:W.fs.length<=8:=I.rt.fs.few;have h6:me<W.fs.length:=I.sf;clear e0;dsimp only at d7 QI |-;subst d7;rw[yk] at QI;clear hm;obtain⟨k0,k1,k2,k3,kf,kl⟩:=I.rcells a9;have j7:s.g2<V.heap.size:=I.r2.lt;have j8:s.g3<V.heap.size:=I.r3.lt;have J:=I.ap;have e8:(rlm W D).s.length<=24:=(gI (I.rt.rs D a9)).1.small;have D0:Hid (goE W.fs D xa≠0->∀ O,Bl V O->Calls _ _ _ _ _):=fun U O hV=>Xf s.a0 s.c0 W.fs D xa O oaa ((I.dp.fr.at).below hV) U;have D1:Hid (goE W.fs D xa=0->∀ O,Bl V O->Calls _ _ _ _ _):=fun U O hV=>go_ok s.a0 s.c0 W.fs D xa O ((I.dp.fr.at).below hV) U;show yO _ #[.pointer (some ⟨d,0,none⟩),.int .i64 (me:Int),.agg #[.int .i64 xk,.int .i64 xa,.int .i64 xb,.int .i64 xc,.int .i64 (D:Int)]] V _;obtain⟨n,hn⟩:∃ n,W.fs.length=n:=⟨_,rfl⟩;have HN:Hid (W.fs.length=n):=hn;obtain⟨nt,b2⟩:∃ n,W.pt.length=n:=⟨_,rfl⟩;have g0:Hid (W.pt.length=nt):=b2
 rw[b2] at l4;have j9:D<n:=oaa
 rw[hn] at l0 l1 l2 l3 n8 h6 D0 D1;obtain⟨r,hr⟩:∃ r,(rlm W D).s.length=r:=⟨_,rfl⟩;have g4:Hid ((rlm W D).s.length=r):=hr;rw[hr] at k0 QI e8;obtain⟨E,U⟩:∃ E,goE W.fs D xa=E:=⟨_,rfl⟩;have HE:Hid (goE W.fs D xa=E):=U;rw[U] at D0 D1 QI;have a8:Hid _:=a9;have i9:Hid _:=J;have d1:¬ d=s.g1:=J.d1;have d2:¬ d=s.g2:=J.d2;have d3:¬ d=s.g3:=J.d3;have g5:¬ s.g1=s.g2:=J.g12;have g6:¬ s.g1=s.g3:=J.g13;have g7:¬ s.g2=s.g3:=J.g23;clear hn b2 I hr U a9 J k1 k2 k3;have i0:(D:Int)<(n:Int):=oaa
 have HI:Hid _:=QI;clear QI
 go_enter func117,ntmps117
 go_upto_region 1 with fail
 obtain⟨V1,d4,BV,y0,y1,y2,y3,y4,sV⟩:=lU V xk xa xb xc (D:Int);rw[d4];clear d4;replace l0:=aA l0 BV;replace l1:=aA l1 BV;replace l2:=aA l2 BV;replace l3:=aA l3 BV;replace l4:=aA l4 BV;replace k0:=aA k0 BV;have k4:d<V1.heap.size:=oaa
 have k5:s.g1<V1.heap.size:=oaa
 by_cases U:E=0
 ·subst U;have hN:q.e=0/\q.w={ fs:=goF W.fs D xa,rs:=W.rs.set D (bB r),ps:=W.ps.set D [],qs:=W.qs.set D [],pt:=W.pt }/\q.o=0:=⟨HI.out.1,HI.out.2.1 rfl⟩;have M:Hid _:=hN;have DD:Hid (∀ O,Bl V O->Calls _ _ _ _ _):=D1.out rfl;have DN:Hid (∀ O,Calls _ _ _ _ _):=fun O=>YA r O e8;clear hN HI D0 D1
  go_region_held3 (fun F=>F.cell? ⟨d,0,none⟩=some (.slice s.a0 n s.c0)/\F.cell? ⟨V.heap.size,4,none⟩=some (.int .i64 (D:Int))/\F.cell? ⟨V.heap.size,1,none⟩=some (.int .i64 xa)) (go_keep) (first|(go_at_call 141;refine yj (DD V1.drew BV.drew) ?_;rintro e w3 ⟨g,rfl,a6,b0,d6⟩;have T:Hid (Bl V1 w3):=(yv _ _).drew.trans a6;have F3:Hid (aS w3 (some ⟨g,0,none⟩) (goF W.fs D xa)):=d6;have c7:=aA l0 T;have c9:=aA y4 T;have c8:=aA y1 T;clear a6 d6))
  have s3:V1.heap.size<=w3.heap.size:=T.size;have gg:V1.heap.size<=g:=by simpa using b0
  have m1:=aA l1 T;have my:=aA y4 T;have mr:=aA k0 T;clear l0 l1 l2 l3 l4 k0 c7 c9 c8 b0 DD y0 y1 y2 y3;have n0:¬ w3.heap.size=d:=oaa
  have o0:¬ d=w3.heap.size:=oaa
  have n1:¬ w3.heap.size=s.g1:=oaa
  have o1:¬ s.g1=w3.heap.size:=oaa
  have n2:¬ w3.heap.size=V.heap.size:=oaa
  have o2:¬ V.heap.size=w3.heap.size:=oaa
  have i1:d<w3.heap.size:=oaa
  have i2:s.g1<w3.heap.size:=oaa
  go_upto_region 4 with fail
  go_cut [9,10] (fun s9 s10 wx=>∃ (b:Nat) (a0 a1:OA) (c0:Nat),s10=.pointer (some ⟨b,0,none⟩)/\s9=.int .i64 0/\Hid (Bl w3 wx)/\Hid (wx.heap[b]?=some (.cells #[.slice a0 r c0,.slice a1 16 16,.slice none 0 0,.slice none 0 0] 50 (0,0)))/\w3.heap.size<=b/\Hid (St (fun b=>b<w3.heap.size) (fun V=>aD V a0 (List.replicate r fH)/\aZ V a1 (List.replicate 16 (0,0))) wx))
  case first =>
   go_region_held3 (fun F=>F.cell? ⟨d,1,none⟩=some (.slice (some ⟨s.g1,0,none⟩) n n)/\F.cell? ⟨V.heap.size,4,none⟩=some (.int .i64 (D:Int))/\F.cell? ⟨s.g1,D*4,none⟩=some (.slice (s.R D).a0 r (s.R D).c0)) (go_keep) (first|(go_at_call 28;refine yj (DN w3.drew) ?_;rintro e w5 ⟨a0,a1,c0,rfl,Z,a7⟩;have B5:Hid (Bl w3 w5):=(yv _ _).drew.trans Z;have C5:Hid (St (fun b=>b<w3.heap.size) (fun V=>aD V a0 (List.replicate r fH)/\aZ V a1 (List.replicate 16 (0,0))) w5):=a7;have g8:=aA m1 B5;have h4:=aA my B5;have g9:=aA mr B5;clear Z a7)|(go_at_call 28;refine yj (DN (w3.alloc (.cells #[.slice none 0 0,.slice none 0 0,.slice none 0 0,.slice none 0 0] 50)).drew) ?_;rintro e w5 ⟨a0,a1,c0,rfl,Z,a7⟩;have B5:Hid (Bl w3 w5):=(aB w3 _).drew.trans (Z.mono oac);have C5:Hid (St (fun b=>b<w3.heap.size+1) (fun V=>aD V a0 (List.replicate r fH)/\aZ V a1 (List.replicate 16 (0,0))) w5):=(by have h:=a7;simp only[yw,World.size_drew] at h;exact h);have g8:=aA m1 B5;have h4:=aA my B5;have g9:=aA mr B5;have X5:Hid (w5.heap[w3.heap.size]?=some (.cells #[.slice none 0 0,.slice none 0 0,.slice none 0 0,.slice none 0 0] 50 (0,0))):=aH (W:=(w3.alloc (.cells #[.slice none 0 0,.slice none 0 0,.slice none 0 0,.slice none 0 0] 50)).drew) (yN w3 _) Z;obtain⟨x0,x1,x2,x3,xf,xl⟩:=aV X5.out;clear Z a7))
   ·go_wp2_with fail
    go_meet
    case rel=>exact⟨_,a0,a1,c0,rfl,rfl,B5.trans ((aB _ _).mono B5.size),mJ _ _ _ _ _ _,B5.size,C5.off (aC.of_below (aB _ _))⟩
   ·go_wp2_with fail
    go_meet
    case rel=>exact⟨_,a0,a1,c0,rfl,rfl,(((B5.setCell (yr _) _).setCell (yr _) _).setCell (yr _) _).setCell (yr _) _,nY X5.out,yr _,(C5.off (ZF (Nat.lt_succ_self _) _ _ _ _ _)).less (fun b hb=>Nat.lt_succ_of_lt hb)⟩
  case rest =>
   obtain⟨b,a0,a1,c0,rfl,rfl,HB,HX,j5,HC⟩:=hcut;have b1:Hid (Bl V w3):=BV.trans (T.mono BV.size);have BW:Hid (Bl V wc):=b1.trans (HB.mono b1.size);have I2:Hid _:=II.below BW;have FF:Hid (St (SX w0.heap.size d s) (fun V=>aS V (some ⟨g,0,none⟩) (goF W.fs D xa)) wc):=ZM (F3.below HB) (fun h=>by have:=b6.out g h;omega);have b5:Hid _:=HC.less (fun b hb=>yC (b6 b hb) b1.size)
   have b3:Hid (gT w0 d me q (.returned (.tuple #[.int .i64 0,.int .i64 0])) (((((((wc.setCell ⟨d,0,none⟩ (.slice (some ⟨g,0,none⟩) n n)).setCell ⟨s.g1,D*4,none⟩ (.slice a0 r c0)).setCell ⟨s.g1,D*4+1,none⟩ (.slice a1 16 16)).setCell ⟨s.g1,D*4+2,none⟩ (.slice none 0 0)).setCell ⟨s.g1,D*4+3,none⟩ (.slice none 0 0)).setCell ⟨s.g2,D,none⟩ (.slice none 0 0)).setCell ⟨s.g3,D,none⟩ (.slice none 0 0))):=by
    obtain⟨s', d9⟩:=I2.moved (c0:=c0) a8.out HE.out FF.out b5.out g4.out;rw[HN.out] at d9;refine⟨0,s', by rw[M.out.1],fun _=>M.out.2.2.symm,?_⟩;rw[M.out.2.1];exact d9
   obtain⟨e4,e5,e6,e7,h7,k6,k7⟩:=bH I2.box;rw[HN.out] at e4 e5 e6 e7;obtain⟨z0,z1,z2,z3,zl⟩:=NU HX.out;have b7:(wc.setCell ⟨d,0,none⟩ (.slice (some ⟨g,0,none⟩) n n)).cell? ⟨d,1,none⟩=some (.slice (some ⟨s.g1,0,none⟩) n n):=(by have h:(wc.setCell ⟨d,0,none⟩ (.slice (some ⟨g,0,none⟩) n n)).heap[d]?=some (.cells #[.slice (some ⟨g,0,none⟩) n n,.slice (some ⟨s.g1,0,none⟩) W.fs.length W.fs.length,.slice (some ⟨s.g2,0,none⟩) W.fs.length W.fs.length,.slice (some ⟨s.g3,0,none⟩) W.fs.length W.fs.length,.slice s.a4 W.pt.length s.c4] 28 (0,0)):=bR (i:=0) I2.box;have h2:=(bH h).2.1;rw[HN.out] at h2;exact h2);have e9:Hid ((wc.setCell ⟨d,0,none⟩ (.slice (some ⟨g,0,none⟩) n n)).heap[d]?=some (.cells #[.slice (some ⟨g,0,none⟩) n n,.slice (some ⟨s.g1,0,none⟩) n n,.slice (some ⟨s.g2,0,none⟩) n n,.slice (some ⟨s.g3,0,none⟩) n n,.slice s.a4 nt s.c4] 28 (0,0))):=(by have h:=I2.box;rw[HN.out,g0.out] at h;exact bR (i:=0) h);have b8:(wc.setCell ⟨d,0,none⟩ (.slice (some ⟨g,0,none⟩) n n)).drew.cell? ⟨d,1,none⟩=some (.slice (some ⟨s.g1,0,none⟩) n n):=b7;obtain⟨j0,j1,j2,j3,jf,jl⟩:=I2.rcells a8.out;have p2:wc.cell? ⟨s.g2,D,none⟩=some (.slice (s.P D).1 (prg W D).length (s.P D).2):=I2.r2.cell a8.out;have p3:wc.cell? ⟨s.g3,D,none⟩=some (.slice (s.Q D).1 (que W D).length (s.Q D).2):=I2.r3.cell a8.out;have f2:wc.frozen? ⟨s.g2,D,none⟩=false:=I2.r2.frozen _;have f3:wc.frozen? ⟨s.g3,D,none⟩=false:=I2.r3.frozen _;have yy:=aA my HB;clear m1 my mr F3 FF HC b5 HX I2 DN
   have k8:¬ b=d:=oaa;have i3:¬ d=b:=oaa;have k9:¬ b=s.g1:=oaa;have i4:¬ s.g1=b:=oaa;have h8:¬ V.heap.size=d:=oaa;have i5:¬ d=V.heap.size:=oaa;have h9:¬ V.heap.size=s.g1:=oaa;have i6:¬ s.g1=V.heap.size:=oaa;have l5:¬ V.heap.size=s.g2:=oaa;have i7:¬ s.g2=V.heap.size:=oaa;have l6:¬ V.heap.size=s.g3:=oaa;have i8:¬ s.g3=V.heap.size:=oaa;have e1:¬ s.g1=d:=fun e=>d1 e.symm;have e2:¬ s.g2=d:=fun e=>d2 e.symm;have e3:¬ s.g3=d:=fun e=>d3 e.symm;have b9:¬ s.g2=s.g1:=fun e=>g5 e.symm;have c6:¬ s.g3=s.g1:=fun e=>g6 e.symm;have j4:¬ s.g3=s.g2:=fun e=>g7 e.symm
   go_wp2_with fail
   go_region_held3 (fun F=>F.cell? ⟨d,1,none⟩=some (.slice (some ⟨s.g1,0,none⟩) n n)/\F.cell? ⟨V.heap.size,4,none⟩=some (.int .i64 (D:Int))/\F.cell? ⟨b,0,none⟩=some (.slice a0 r c0)/\F.cell? ⟨b,1,none⟩=some (.slice a1 16 16)/\F.cell? ⟨b,2,none⟩=some (.slice none 0 0)/\F.cell? ⟨b,3,none⟩=some (.slice none 0 0)) (go_keep) (fail)
   go_wp2_with fail
   obtain⟨V7,a5⟩:∃ V7,(((((wc.setCell ⟨d,0,none⟩ (.slice (some ⟨g,0,none⟩) n n)).setCell ⟨s.g1,D*4,none⟩ (.slice a0 r c0)).setCell ⟨s.g1,D*4+1,none⟩ (.slice a1 16 16)).setCell ⟨s.g1,D*4+2,none⟩ (.slice none 0 0)).setCell ⟨s.g1,D*4+3,none⟩ (.slice none 0 0)).drew=V7:=⟨_,rfl⟩
   have b4:Hid (gT w0 d me q (.returned (.tuple #[.int .i64 0,.int .i64 0])) ((V7.setCell ⟨s.g2,D,none⟩ (.slice none 0 0)).setCell ⟨s.g3,D,none⟩ (.slice none 0 0)).drew):=by
    obtain⟨o,s', h1,h2,h3⟩:=b3.out;rw[<- a5,ZR,ZR];exact⟨o,s', h1,h2,h3.below (yv _ _).drew.drew⟩
   have far:∀ j,j≠d->j≠s.g1->V7.heap[j]?=wc.heap[j]?:=fun j h1 h2=>by rw[<- a5];exact Yv wc h1 h2
   have d5:V7.heap[d]?=some (.cells #[.slice (some ⟨g,0,none⟩) n n,.slice (some ⟨s.g1,0,none⟩) n n,.slice (some ⟨s.g2,0,none⟩) n n,.slice (some ⟨s.g3,0,none⟩) n n,.slice s.a4 nt s.c4] 28 (0,0)):=by
    rw[<- a5];show ((((((wc.setCell ⟨d,0,none⟩ (.slice (some ⟨g,0,none⟩) n n)).setCell ⟨s.g1,D*4,none⟩ (.slice a0 r c0)).setCell ⟨s.g1,D*4+1,none⟩ (.slice a1 16 16)).setCell ⟨s.g1,D*4+2,none⟩ (.slice none 0 0)).setCell ⟨s.g1,D*4+3,none⟩ (.slice none 0 0))).heap[d]?=_;rw[yx _ _ _ _ d1,yx _ _ _ _ d1,yx _ _ _ _ d1,yx _ _ _ _ d1];exact e9.out
   rw[a5];clear a5 b3 b7 b8 e4 e5 e6 e7 h7 z0 z1 z2 z3 j0 j1 j2 j3;obtain⟨_,_,v2,v3,_,vf,vl⟩:=bH d5;have u2:=(yE (far s.g2 e2 b9)).trans p2;have u3:=(yE (far s.g3 e3 c6)).trans p3;have w2:=(yF (far s.g2 e2 b9)).trans f2;have l7:=(yF (far s.g3 e3 c6)).trans f3;have y7:=(yE (far V.heap.size h8 h9)).trans yy;clear p2 p3 f2 f3 yy far d5
   go_region_held3 (fun F=>F.cell? ⟨d,2,none⟩=some (.slice (some ⟨s.g2,0,none⟩) n n)/\F.cell? ⟨d,3,none⟩=some (.slice (some ⟨s.g3,0,none⟩) n n)/\F.cell? ⟨V.heap.size,4,none⟩=some (.int .i64 (D:Int))) (go_keep) (fail)
   go_wp2
   exact yz (v:=.tuple #[.int .i64 0,.int .i64 0]) (by simp[results,results117,go_sem]) rfl b4.out
 ·have hN:q.e=E/\q.w=W:=⟨HI.out.1,HI.out.2.2 U⟩;have M:Hid _:=hN;have hz:(E == 0)=false:=by simp[U]
  have DD:Hid (∀ O,Bl V O->Calls _ _ _ _ _):=D0.out U;clear HI hN D0 D1
  go_region_held3 (fun F=>F.cell? ⟨d,0,none⟩=some (.slice s.a0 n s.c0)/\F.cell? ⟨V.heap.size,4,none⟩=some (.int .i64 (D:Int))/\F.cell? ⟨V.heap.size,1,none⟩=some (.int .i64 xa)) (go_keep) (first|(go_at_call 141;refine yj (DD V1.drew BV.drew) ?_;rintro e w3 ⟨rfl,a6⟩;have T:Hid (Bl V1 w3):=(yv _ _).drew.trans a6;have c7:=aA l0 T;have c9:=aA y4 T;have c8:=aA y1 T;clear a6))
  go_wp2
  exact yz (v:=.tuple #[.int .i64 0,.int .i64 E]) (by simp[results,results117,go_sem]) rfl ⟨0,s,by rw[M.out.1],fun h=>absurd (M.out.1.symm.trans h) U,by rw[M.out.2];exact II.below (BV.trans (T.mono BV.size))⟩
