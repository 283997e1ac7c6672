/-
  x
-/
import Derived.Test.YtcbcpomacdngmaaGreatS44
namespace Go.Proofs.YtcbcpomacdngmaaGreat
set_option maxRecDepth 100000
set_option maxHeartbeats 4000000
set_option linter.unusedVariables false
open Go.RowKit Go.ChangeShapes Go.WideShapes
theorem zyT(me:Nat)(W:Wl)(x:Ac):PBy 122 me W x (setR W me { rlm W me with i:=gr (pt W.pt x.n.toNat).cm 0 }) (zfy W.pt (many W) x.n me (zaD W me)) (zhO W.pt x.n):=fun w0 d s V I=>by
 obtain⟨xk,xa,xb,xc,J⟩:=x;have II:Hid (SW w0 d me W s V):=I;have b3:=I.lt;have b5:Hid _:=b3;obtain⟨l0,l1,l2,l3,l4,lf,ll⟩:=zal I.box;have d5:d<V.heap.size:=ll;have n8:W.fs.length<=8:=I.rt.fs.few;have c6:me<W.fs.length:=I.sf;clear b3;dsimp only;have b2:∀ V2,Below V.heap.size V V2->∀ b,SX w0.heap.size d s b->b<V2.heap.size:=fun V2 hV b hb=>yz (b5.out b hb) hV.size;have a5:=I.big;have D:Hid (∀ V2 z,Below V.heap.size V V2->V.heap.size<=z->z<V2.heap.size->Calls _ _ _ _ _):=fun V2 z hV hz d7=>zuv (fun b=>SX w0.heap.size d s b\/b=z) s.a4 s.c4 W.pt (many W) J me (zaD W me) V2 (fun b hb=>hb.elim (b2 V2 hV b) (fun e=>by omega)) a5.1 a5.2 I.dp.pc (I.dp.pt.grow (zaq.of_below hV) (fun b hb hy=>hy.elim id (fun e=>by omega)));have EP:Hid (zfy W.pt (many W) J me (zaD W me)=0->zhS W.pt (many W) J me (zaD W me)=zhO W.pt J/\zuu W.pt (many W) J me (zaD W me)=gr (pt W.pt J.toNat).cm 0):=fun h=>⟨yb h,yb h⟩
 have HQ:Hid (zfy W.pt (many W) J me (zaD W me)=0->zaF { rlm W me with i:=gr (pt W.pt J.toNat).cm 0 }=0):=fun h=>by
  have h1:=(zgy I.rt I.sf h).rs me I.sf;have h2:rlm (setR W me { rlm W me with i:=gr (pt W.pt J.toNat).cm 0 }) me={ rlm W me with i:=gr (pt W.pt J.toNat).cm 0 }:=by rw[zdy (by rw[I.rt.lr];exact I.sf),yb rfl]
  rw[<- h2];exact h1
 obtain⟨k0,k1,k2,k3,kf,kl⟩:=I.rcells I.sf;clear k0 k1 k3 kf;show yM _ #[.pointer (some ⟨d,0,none⟩),.int .i64 (me:Int),.int .i64 (zaD W me),.agg #[.int .i64 xk,.int .i64 xa,.int .i64 xb,.int .i64 xc,.int .i64 J]] V _;obtain⟨n,hn⟩:∃ n,W.fs.length=n:=⟨_,rfl⟩;have HN:Hid (W.fs.length=n):=hn;obtain⟨nt,a9⟩:∃ n,W.pt.length=n:=⟨_,rfl⟩;have c9:Hid (W.pt.length=nt):=a9;rw[a9] at l4 D;rw[hn] at l0 l1 l2 l3 n8 c6;rw[show many W=(n:Int) from by rw[<- hn];rfl] at D EP HQ |-;clear hn a9 I b2 a5;have c8:(me:Int)<(n:Int):=by omega
 generalize zaD W me=tn at *;generalize zfy W.pt n J me tn=E at *;generalize zhS W.pt n J me tn=M at *;generalize zuu W.pt n J me tn=G at *;generalize zhO W.pt J=L at *;generalize gr (pt W.pt J.toNat).cm 0=G0 at *
 go_enter Tryz.func122,Tryz.ntmps122
 go_upto_region 1 with fail
 obtain⟨F,b1,T,y0,y1,y2,y3,y4,sV⟩:=zcz V xk xa xb xc J;rw[b1];clear b1;replace l0:=zab l0 T.out;replace l1:=zab l1 T.out;replace l2:=zab l2 T.out;replace l3:=zab l3 T.out;replace l4:=zab l4 T.out;replace k2:=zab k2 T.out;have n0:¬ F.heap.size=d:=by omega
 have o0:¬ d=F.heap.size:=by omega
 have n2:¬ F.heap.size=V.heap.size:=by omega
 have o2:¬ V.heap.size=F.heap.size:=by omega
 have d6:d<F.heap.size:=by omega
 go_cut [10,11,12] (fun s10 s11 s12 wx=>∃ (b:Nat) (U:Option Addr) (vc:Nat) (ga:Option Addr) (gc:Nat),s10=.slice U M.length vc/\s11=.pointer (some ⟨b,0,none⟩)/\s12=.int .i64 E/\Hid (Below F.heap.size F wx)/\Hid (wx.heap[b]?=some (.cells #[.slice ga G.length gc] 47 (0,0)))/\F.heap.size<=b/\Hid (zbK (SX w0.heap.size d s) wx U M)/\Hid (SlA U M.length vc)/\Hid (St (SX w0.heap.size d s) (fun V=>zaI V ga G) wx))
 case first =>
  go_region_held3 (fun b0=>b0.cell? ⟨d,0,none⟩=some (.slice s.a0 n s.c0)/\b0.cell? ⟨d,4,none⟩=some (.slice s.a4 nt s.c4)/\b0.cell? ⟨V.heap.size,4,none⟩=some (.int .i64 J)) (go_keep) (first|(go_at_call 146;refine ye (D.out F.drew V.heap.size T.out.drew (yj _) sV) ?_;rintro e w3 ⟨U,vc,ga,gc,rfl,O,a8,a7,a6⟩;have Z:Hid (Below F.heap.size F w3):=(yk _ _).drew.trans O;have S3:Hid _:=a8;have P3:Hid (zbK (fun b=>SX w0.heap.size d s b\/b=V.heap.size) w3 U M):=a7;have C3:Hid (St (fun b=>SX w0.heap.size d s b\/b=V.heap.size) (fun V=>zaI V ga G) w3):=a6;have b7:=zab l0 Z.out;have b8:=zab l4 Z.out;have b9:=zab y4 Z.out;clear O a8 a7 a6)|(go_at_call 146;refine ye (D.out (F.alloc (.cells #[.slice none 0 0] 47)).drew F.heap.size (T.out.trans ((zaa F _).mono T.out.size)).drew T.out.size (by show F.heap.size<(F.alloc _).heap.size;simp)) ?_;rintro e w3 ⟨U,vc,ga,gc,rfl,O,a8,a7,a6⟩;have Z:Hid (Below F.heap.size F w3):=(zaa F _).drew.trans (O.mono (by simp));have S3:Hid _:=a8;have P3:Hid (zbK (fun b=>SX w0.heap.size d s b\/b=F.heap.size) w3 U M):=a7;have C3:Hid (St (fun b=>SX w0.heap.size d s b\/b=F.heap.size) (fun V=>zaI V ga G) w3):=a6;have b7:=zab l0 Z.out;have b8:=zab l4 Z.out;have b9:=zab y4 Z.out;have X3:Hid (w3.heap[F.heap.size]?=some (.cells #[.slice none 0 0] 47 (0,0))):=zaA (W:=(F.alloc (.cells #[.slice none 0 0] 47)).drew) (yL F _) O;have x0:=zaJ X3.out;have xf:=zaW (o:=0) X3.out;have xl:F.heap.size<w3.heap.size:=zaw X3.out;clear O a8 a7 a6))
  ·go_wp2_with fail
   go_meet
   case rel=>exact⟨_,U,vc,ga,gc,rfl,rfl,rfl,Z.out.trans ((zaa _ _).mono Z.out.size),yL _ _,Z.out.size,fun w' ho=>(P3.out.off (zaq.of_below (zaa _ _))) w' (ho.mono (fun b h=>Or.inl h)),S3.out,(C3.out.off (zaq.of_below (zaa _ _))).less (fun b h=>Or.inl h)⟩
  ·go_wp2_with fail
   go_meet
   case rel=>exact⟨_,U,vc,ga,gc,rfl,rfl,rfl,Z.out.setCell (yj _) _,ziT X3.out,yj _,fun w' ho=>(P3.out.off (zaq.set _ _ (Or.inr rfl))) w' (ho.mono (fun b h=>Or.inl h)),S3.out,(C3.out.off (zaq.set _ _ (Or.inr rfl))).less (fun b h=>Or.inl h)⟩
 case rest =>
  obtain⟨b,U,vc,ga,gc,rfl,rfl,rfl,HB,HX,d4,HP,b6,HC⟩:=hcut;have BW:Hid (Below V.heap.size V wc):=T.out.trans (HB.out.mono T.out.size);have I2:Hid _:=II.out.below BW.out;clear l0 l1 l2 l3 l4 k2 D;by_cases hE:E=0
  ·subst hE;obtain⟨rfl,rfl⟩:=EP.out rfl;have hs:=I2.out.setIn (c:=gc) (HQ.out rfl) HC.out;have HS:Hid _:=hs;have b4:Hid _:=HP.out.off (zaq.set wc (o:=me*4+2) (.slice ga G.length gc) (show SX w0.heap.size d s s.g1 from .inr (.inr (.inl rfl))));have OX:Hid (zaq (fun b=>b=s.g1) V (wc.setCell ⟨s.g1,me*4+2,none⟩ (.slice ga G.length gc))):=(zaq.of_below BW.out).trans (zaq.set (X:=fun b=>b=s.g1) _ _ rfl);obtain⟨e4,c7,e5,e6,e7,e8,e9⟩:=zal I2.out.box;rw[HN.out] at c7;obtain⟨d8,d9,e0,e1,e2,e3⟩:=I2.out.rcells I2.out.sf;have x0:=zaJ HX.out;have bl:b<wc.heap.size:=zaw HX.out;have ng:¬ s.g1=b:=(by omega);have g0:¬ b=s.g1:=(by omega);clear hs
   go_wp2_with fail
   go_region
   go_wp2
   exact yw (v:=.tuple #[.slice U M.length vc,.int .i64 0]) (by simp[results,Tryz.results122,go_sem]) rfl ⟨U,vc,M,_,rfl,OX.out.trans (zaq.of_below (yk _ _).drew),fun _=>⟨rfl,HS.out.below (yk _ _).drew,zbK.off (X:=SX w0.heap.size d s) b4.out (zaq.of_below (yk _ _).drew),b6.out⟩,fun h=>absurd rfl h⟩
  ·have hz:(E == 0)=false:=by simp[hE]
   go_wp2
   exact yw (v:=.tuple #[.slice none 0 0,.int .i64 E]) (by simp[results,Tryz.results122,go_sem]) rfl ⟨none,0,[],s,rfl,zaq.of_below BW.out,fun h=>absurd h hE,fun _=>I2.out⟩
theorem zwl:(Tryz.prog.info? 53).map (fun i=>(i.zero,i.size,i.bytes))=some (some (.agg #[.int .i64 0,.slice none 0 0]),2,32):=by kernel_rfl
theorem zBf{w:World}{b:Nat}{u0 u1:Value}(c0:w.cell? ⟨b,0,none⟩=some u0)(c1:w.cell? ⟨b,1,none⟩=some u1):∀ j u,([u0,u1]:List Value)[j]?=some u->w.cell? ((⟨b,0,none⟩:Addr).add j)=some u:=fun j u D=>by
 rw[Addr.add_lit,yB]
 match j,D with
 | 0,D=>cases D;exact c0
 | 1,D=>cases D;exact c1
theorem zuV(me:Nat)(W:Wl)(x:Ac)(hm:zdN W.fs me x.a 3=0):zhp 114 #[] (fun _=>True) me W x (zfe [zbu (rlm W me) x.n,if (que W x.a.toNat).length=16 then 1 else 0] W { W with qs:=W.qs.set x.a.toNat (que W x.a.toNat++[⟨me,zbg (rlm W me) x.n.toNat⟩]) } 0):=fun w0 d s V I _=>by
 have QI:=zeO [zbu (rlm W me) x.n,if (que W x.a.toNat).length=16 then 1 else 0] W { W with qs:=W.qs.set x.a.toNat (que W x.a.toNat++[⟨me,zbg (rlm W me) x.n.toNat⟩]) } 0;rw[zxy] at QI;obtain⟨q,e1⟩:∃ q,zfe [zbu (rlm W me) x.n,if (que W x.a.toNat).length=16 then 1 else 0] W { W with qs:=W.qs.set x.a.toNat (que W x.a.toNat++[⟨me,zbg (rlm W me) x.n.toNat⟩]) } 0=q:=⟨_,rfl⟩;rw[e1] at QI |-;clear e1;have HR:Hid (zbu (rlm W me) x.n=0->(que W x.a.toNat).length≠16->zao { W with qs:=W.qs.set x.a.toNat (que W x.a.toNat++[⟨me,zbg (rlm W me) x.n.toNat⟩]) }):=fun h1 h2=>zlb I.rt I.sf (by rw[zxz,hm,h1,yb rfl,yb rfl,ya h2]);obtain⟨ka,d9,b7,_⟩:=zdv (zca hm).2.2.1;obtain⟨xk,xa,xb,xc,xn⟩:=x;have II:Hid (SW w0 d me W s V):=I;have e2:=I.lt;have e6:Hid _:=e2;obtain⟨l0,l1,l2,l3,l4,lf,ll⟩:=zal I.box;have j1:d<V.heap.size:=ll;have n8:W.fs.length<=8:=I.rt.fs.few;have h4:me<W.fs.length:=I.sf;clear e2;dsimp only at d9 QI HR |-;subst d9;rw[yi] at QI HR;clear hm;obtain⟨k0,k1,k2,k3,kf,kl⟩:=I.rcells I.sf;have cq:V.cell? ⟨s.g3,ka,none⟩=some (.slice (s.Q ka).1 (que W ka).length (s.Q ka).2):=I.r3.cell b7;have i6:(que W ka).length<=16:=(zbJ.1 (I.rt.qs ka b7)).1;have D:Hid (∀ V2,Below V.heap.size V V2->Calls _ _ _ _ _):=fun V2 hV=>znf (s.R me) (rlm W me) xn V2 (I.rt.rs me I.sf) ((I.rat I.sf).below hV);have j2:s.g3<V.heap.size:=I.r3.lt
 have nq:∀ j,(j=d\/j=s.g3\/V.heap.size<=j)->s.q ka≠some j:=fun j hj e=>by
  have h1:=I.ap.qq ka j e;have h2:=I.dp.lt (n:=0) I.ap j (.inr ⟨ka,e⟩);rcases hj with h|h|h
  ·exact h1.2.1 h
  ·exact h1.2.2.2.2.1 h
  ·omega
 dsimp only[rlV] at D;show yM _ #[.pointer (some ⟨d,0,none⟩),.int .i64 (me:Int),.agg #[.int .i64 xk,.int .i64 (ka:Int),.int .i64 xb,.int .i64 xc,.int .i64 xn]] V _;obtain⟨n,hn⟩:∃ n,W.fs.length=n:=⟨_,rfl⟩;have HN:Hid (W.fs.length=n):=hn;obtain⟨nt,b9⟩:∃ n,W.pt.length=n:=⟨_,rfl⟩;have i9:Hid (W.pt.length=nt):=b9;rw[b9] at l4;have g9:ka<n:=by omega
 rw[hn] at l0 l1 l2 l3 n8 h4;have MG:Hid (zbu (rlm W me) xn=0->mkG (rlm W me) xn=zbg (rlm W me) xn.toNat):=fun h=>yb h;generalize (rlm W me).s.length=r0 at *;generalize (rlm W me).hs.length=r1 at *;generalize (rlm W me).i.length=r2 at *;generalize (rlm W me).t.length=r3 at *;clear hn b9 I b7;have i8:(me:Int)<(n:Int):=by omega
 have i7:(ka:Int)<(n:Int):=by omega
 obtain⟨E1,b5⟩:∃ E,zbu (rlm W me) xn=E:=⟨_,rfl⟩;have d4:Hid (zbu (rlm W me) xn=E1):=b5;rw[b5] at MG QI HR;clear b5;obtain⟨W', b6⟩:∃ W' : Wl,({ W with qs:=W.qs.set ka (que W ka++[⟨me,zbg (rlm W me) xn.toNat⟩]) }:Wl)=W' :=⟨_,rfl⟩;have b3:Hid (_=W'):=b6;rw[b6] at QI HR;clear b6;have HI:Hid _:=QI;clear QI
 go_enter Tryz.func114,Tryz.ntmps114
 go_upto_region 1 with fail
 obtain⟨M,d6,BV,y0,y1,y2,y3,y4,sV⟩:=zcz V xk (ka:Int) xb xc xn;rw[d6];clear d6;replace l0:=zab l0 BV.out;replace l1:=zab l1 BV.out;replace l2:=zab l2 BV.out;replace l3:=zab l3 BV.out;replace l4:=zab l4 BV.out;replace k0:=zab k0 BV.out;replace k1:=zab k1 BV.out;replace k2:=zab k2 BV.out;replace k3:=zab k3 BV.out;have n0:¬ M.heap.size=d:=by omega
 have o0:¬ d=M.heap.size:=by omega
 have n1:¬ M.heap.size=s.g1:=by omega
 have o1:¬ s.g1=M.heap.size:=by omega
 have n2:¬ M.heap.size=V.heap.size:=by omega
 have o2:¬ V.heap.size=M.heap.size:=by omega
 have j4:d<M.heap.size:=by omega
 have j5:s.g1<M.heap.size:=by omega
 obtain⟨GG,d5⟩:∃ G,mkG (rlm W me) xn=G:=⟨_,rfl⟩;have a6:Hid (mkG (rlm W me) xn=GG):=d5;clear d5;have c9:Hid _:=cq;have e5:Hid _:=nq;clear cq nq
 go_cut [8,9] (fun s8 s9 wx=>∃ (b:Nat) (ga:Option Addr) (gc:Nat),s8=.pointer (some ⟨b,0,none⟩)/\s9=.int .i64 E1/\Hid (Below M.heap.size M wx)/\Hid (wx.heap[b]?=some (.cells #[.slice ga GG.length gc] 47 (0,0)))/\M.heap.size<=b/\Hid (St (fun b=>b<M.heap.size) (fun V=>zaI V ga GG) wx))
 case first =>
  go_region_held3 (fun T=>T.cell? ⟨d,1,none⟩=some (.slice (some ⟨s.g1,0,none⟩) n n)/\T.cell? ⟨s.g1,me*4,none⟩=some (.slice (s.R me).a0 r0 (s.R me).c0)/\T.cell? ⟨s.g1,me*4+1,none⟩=some (.slice (s.R me).a1 r1 (s.R me).c1)/\T.cell? ⟨s.g1,me*4+2,none⟩=some (.slice (s.R me).a2 r2 (s.R me).c2)/\T.cell? ⟨s.g1,me*4+3,none⟩=some (.slice (s.R me).a3 r3 (s.R me).c3)/\T.cell? ⟨V.heap.size,4,none⟩=some (.int .i64 xn)) (go_keep) (first|(go_at_call 139;refine ye (D.out M.drew BV.out.drew) ?_;rintro e w3 ⟨ga,gc,rfl,a7,a5⟩;rw[a6.out,d4.out];rw[a6.out] at a5;have Z:Hid (Below M.heap.size M w3):=(yk _ _).drew.trans a7;have C3:Hid (St (fun b=>b<M.heap.size) (fun V=>zaI V ga GG) w3):=a5;have g4:=zab l1 Z.out;have e7:=zab k0 Z.out;have e8:=zab k1 Z.out;have e9:=zab k2 Z.out;have g0:=zab k3 Z.out;have g5:=zab y4 Z.out;clear a7 a5)|(go_at_call 139;refine ye (D.out (M.alloc (.cells #[.slice none 0 0] 47)).drew (BV.out.trans ((zaa M _).mono BV.out.size)).drew) ?_;rintro e w3 ⟨ga,gc,rfl,a7,a5⟩;rw[a6.out,d4.out];rw[a6.out] at a5;have Z:Hid (Below M.heap.size M w3):=(zaa M _).drew.trans (a7.mono (by simp));have C3:Hid (St (fun b=>b<M.heap.size+1) (fun V=>zaI V ga GG) w3):=(by have h:=a5;simp only[yr,World.size_drew] at h;exact h);have g4:=zab l1 Z.out;have e7:=zab k0 Z.out;have e8:=zab k1 Z.out;have e9:=zab k2 Z.out;have g0:=zab k3 Z.out;have g5:=zab y4 Z.out;have X3:Hid (w3.heap[M.heap.size]?=some (.cells #[.slice none 0 0] 47 (0,0))):=zaA (W:=(M.alloc (.cells #[.slice none 0 0] 47)).drew) (yL M _) a7;have x0:=zaJ X3.out;have xf:=zaW (o:=0) X3.out;have xl:M.heap.size<w3.heap.size:=zaw X3.out;clear a7 a5))
  ·go_wp2_with fail
   go_meet
   case rel=>exact⟨_,ga,gc,rfl,rfl,Z.out.trans ((zaa _ _).mono Z.out.size),yL _ _,Z.out.size,C3.out.off (zaq.of_below (zaa _ _))⟩
  ·go_wp2_with fail
   go_meet
   case rel=>exact⟨_,ga,gc,rfl,rfl,Z.out.setCell (yj _) _,ziT X3.out,yj _,(C3.out.off (zaq.set _ _ (Nat.lt_succ_self _))).less (fun b hb=>Nat.lt_succ_of_lt hb)⟩
 case rest =>
  obtain⟨b,ga,gc,rfl,rfl,HB,HX,j0,HC⟩:=hcut;have BW:Hid (Below V.heap.size V wc):=BV.out.trans (HB.out.mono BV.out.size);have I2:Hid _:=II.out.below BW.out;clear l0 l1 l2 l3 l4 k0 k1 k2 k3 D;by_cases hE:E1=0
  ·subst hE;have eG:GG=zbg (rlm W me) xn.toNat:=a6.out.symm.trans (MG.out rfl);rw[<- eG] at b3;have b4:Hid _:=b3.out;obtain⟨i1,i2,i3,c3,i4,i5,j6⟩:=zal I2.out.box;rw[HN.out] at c3;have cq:=zab c9.out BW.out;have cy:=zab y1 HB.out;have cb:=zaJ HX.out;have h6:V.heap.size<=b:=(by omega);have j3:M.heap.size<=wc.heap.size:=HB.out.size;clear eG a6 MG c9 y0 y1 y2 y3 y4 i1 i2 i3 i4 i5;obtain⟨m,b8⟩:∃ m,(que W ka).length=m:=⟨_,rfl⟩;have b2:Hid (_=m):=b8;rw[b8] at cq i6 HR HI;clear b8;by_cases a8:m=16
   ·subst a8;have U:=HI.out;rw[yb rfl,yb rfl] at U;have hN:q.e=1/\q.w=W:=⟨U.1,U.2.2 (by decide)⟩;have O:Hid _:=hN;clear HI U hN
    go_wp2_with fail
    go_region
    go_wp2
    exact yw (v:=.tuple #[.int .i64 0,.int .i64 1]) (by simp[results,Tryz.results114,go_sem]) rfl ⟨0,s,by rw[O.out.1],fun h=>absurd (O.out.1.symm.trans h) (by decide),by rw[O.out.2];exact I2.out.below (yk _ _).drew⟩
   ·have hz:((m:Int) == 16)=false:=(by simp;omega);have U:=HI.out;rw[yb rfl,ya a8] at U;have hN:q.e=0/\q.w=W' /\ q.o=0:=⟨U.1,U.2.1 rfl⟩;have O:Hid _:=hN;clear HI U hN;have nq:=e5.out;generalize d7:GG.length=gl at *;have e4:Hid (GG.length=gl):=d7;clear d7
    go_wp2_with fail
    go_region
    go_wp2_with fail
    obtain⟨F,b0⟩:∃ F,F=wc.drew:=⟨_,rfl⟩;have B6:Hid (Below wc.heap.size wc F):=(by rw[b0];exact(yk _ _).drew);have s6:F.heap.size=wc.heap.size:=(by rw[b0];simp);rw[<- b0];clear b0;replace c3:=zab c3 B6.out;replace cy:=zab cy B6.out;replace cq:=zab cq B6.out;replace cb:=zab cb B6.out;have I7:Hid (SW w0 d me W s (F.drew.alloc (.cells #[.int .i64 me,.slice ga gl gc] 53))):=(I2.out.below B6.out).below ((yk F.heap.size F).drew.alloc (yj _) (.cells #[.int .i64 me,.slice ga gl gc] 53));obtain⟨qs,c6⟩:∃ q,zcR (que W ka) (s.G ka)=q:=⟨_,rfl⟩;have d8:ka<W.fs.length:=(by rw[HN.out];exact g9);have HA:Hid (App (SX w0.heap.size d s) w0.heap.size 53 2 (s.Q ka).1 m (s.Q ka).2 qs (s.q ka) (F.drew.alloc (.cells #[.int .i64 me,.slice ga gl gc] 53))):=(by have h:=I7.out.dp.qs ka d8;rw[c6,b2.out] at h;exact h);have c8:Hid (St (SX w0.heap.size d s) (fun V=>zaI V ga GG) (F.drew.alloc (.cells #[.int .i64 me,.slice ga gl gc] 53))):=((HC.out.off (zaq.of_below B6.out)).off (zaq.of_below ((yk F.heap.size F).drew.alloc (yj _) (.cells #[.int .i64 me,.slice ga gl gc] 53)))).less (fun b hb=>yz (e6.out b hb) BV.out.size);have g6:w0.heap.size<=(F.drew.alloc (.cells #[.int .i64 me,.slice ga gl gc] 53)).heap.size:=I7.out.bel.size;have FZ:Hid (∀ w9,(F.drew.alloc (.cells #[.int .i64 me,.slice ga gl gc] 53)).grownBy w9 (s.q ka)->w9.frozen? ⟨s.g3,ka,none⟩=false):=fun w9 hg=>(yD (hg.block s.g3 I7.out.r3.lt (fun e=>nq s.g3 (.inr (.inl rfl)) e.symm))).trans (I7.out.r3.frozen _)
    have c7:Hid (∀ g cap w9,(F.drew.alloc (.cells #[.int .i64 me,.slice ga gl gc] 53)).grownBy w9 (s.q ka)->w9.ownsRow w0.heap.size 53 2 (.slice (some ⟨g,0,none⟩) (m+1) cap) (m+1) (qs++[.int .i64 me,.slice ga gl gc])->(s.q ka=some g\/(F.drew.alloc (.cells #[.int .i64 me,.slice ga gl gc] 53)).heap.size<=g)->zdJ w0 d me q (.returned (.tuple #[.int .i64 0,.int .i64 0])) (w9.setCell ⟨s.g3,ka,none⟩ (.slice (some ⟨g,0,none⟩) (m+1) cap))):=fun g cap w9 g7 e0 h3=>by
     have hR:=HR.out (by trivial) a8;rw[<- b4.out] at hR;have h1:=I7.out.mail (k:=ka) (m:=⟨me,GG⟩) (ga:=(ga,gc)) (g:=g) (cap:=cap) d8 c8.out g7 (by rw[c6,b2.out,e4.out];exact e0) h3 hR rfl;rw[b2.out,b4.out] at h1;rw[<- O.out.2.1] at h1;exact⟨0,_,by rw[O.out.1],fun _=>O.out.2.2.symm,h1⟩
    clear c6 I7 c8 HR b4 b3;generalize s.q ka=qt at *;generalize s.Q ka=Qk at *;obtain⟨qa,qc⟩:=Qk;dsimp only at cq HA;obtain⟨i0,g8,h7,h8,h9⟩:=info_parts zwl;refine wp_region_noPanic ?_;refine zeR (S:=fun T=>T.cell? ⟨d,3,none⟩=some (.slice (some ⟨s.g3,0,none⟩) n n)/\T.cell? ⟨V.heap.size,1,none⟩=some (.int .i64 (ka:Int))/\T.cell? ⟨s.g3,ka,none⟩=some (.slice qa m qc)/\T.cell? ⟨b,0,none⟩=some (.slice ga gl gc)) 20 (by kernel_rfl) (by(try dsimp only);go_keep) (fun hHeld=>?_);refine zah (i:=0) ?_;simp[Act.put];refine zah (i:=1) ?_;simp[Act.put];refine zah (i:=2) ?_;simp[Act.put];refine zah (i:=3) ?_;simp[Act.put];refine zah (i:=4) ?_;simp[Act.put];refine zah (i:=5) ?_;simp[Act.put];refine zah (i:=6) ?_;simp[Act.put];refine zah (i:=7) ?_;simp[Act.put];refine zah (i:=8) ?_;simp[Act.put];refine zah (i:=9) ?_;simp[Act.put];refine zah (i:=10) ?_;simp[Act.put];refine zah (i:=11) ?_;simp[Act.put];refine zah (i:=12) ?_;simp[Act.put];refine zah (i:=13) ?_;simp[Act.put];refine zah (i:=14) ?_;simp[Act.put];refine zah (i:=15) ?_;simp[Act.put];refine zah (i:=16) ?_;simp[Act.put];refine zbz (i:=17) (by kernel_rfl) rfl (fun K hK=>?_);go_simp;refine hK.out _ _ ?_ (fun hHeld=>?_)
    ·exact⟨zab c3 ((yk F.heap.size F).drew.alloc (yj _) (.cells #[.int .i64 me,.slice ga gl gc] 53)),zab cy ((yk F.heap.size F).drew.alloc (yj _) (.cells #[.int .i64 me,.slice ga gl gc] 53)),zab cq ((yk F.heap.size F).drew.alloc (yj _) (.cells #[.int .i64 me,.slice ga gl gc] 53)),zab cb ((yk F.heap.size F).drew.alloc (yj _) (.cells #[.int .i64 me,.slice ga gl gc] 53))⟩
    clear hK K hHeld
    try simp[Act.put]
    refine zbz (i:=18) (by kernel_rfl) rfl (fun K hK=>?_);refine zma (F.drew.alloc (.cells #[.int .i64 me,.slice ga gl gc] 53)) rfl (.tmp 49) (.tmp 53) 51 rfl 53 i0 (.agg #[.int .i64 0,.slice none 0 0]) 2 32 Tryz.underlying51 g8 h7 h8 h9 rfl (by decide) qa m qc qs qt HA.out g6 rfl ⟨F.heap.size,0,none⟩ 1 1 [.int .i64 me,.slice ga gl gc] (by simp[Act.eval]) rfl (zBf (zad F.drew _ _ 0 rfl) (zad F.drew _ _ 1 rfl)) (by intro u hu;simp at hu;rcases hu with rfl|rfl <;> rfl) (by decide) (by unfold maxLen;omega) (by omega) ?_;intro g cap w9 b1 J a9 j7;have t3:w9.cell? ⟨d,3,none⟩=some (.slice (some ⟨s.g3,0,none⟩) n n):=J.cell (a:=⟨d,3,none⟩) (zab c3 ((yk F.heap.size F).drew.alloc (yj _) (.cells #[.int .i64 me,.slice ga gl gc] 53))) (fun e=>nq d (.inl rfl) e.symm);have ty:w9.cell? ⟨V.heap.size,1,none⟩=some (.int .i64 (ka:Int)):=J.cell (a:=⟨V.heap.size,1,none⟩) (zab cy ((yk F.heap.size F).drew.alloc (yj _) (.cells #[.int .i64 me,.slice ga gl gc] 53))) (fun e=>nq _ (.inr (.inr (yj _))) e.symm);have tq:w9.cell? ⟨s.g3,ka,none⟩=some (.slice qa m qc):=J.cell (a:=⟨s.g3,ka,none⟩) (zab cq ((yk F.heap.size F).drew.alloc (yj _) (.cells #[.int .i64 me,.slice ga gl gc] 53))) (fun e=>nq _ (.inr (.inl rfl)) e.symm);have tb:w9.cell? ⟨b,0,none⟩=some (.slice ga gl gc):=J.cell (a:=⟨b,0,none⟩) (zab cb ((yk F.heap.size F).drew.alloc (yj _) (.cells #[.int .i64 me,.slice ga gl gc] 53))) (fun e=>nq b (.inr (.inr h6)) e.symm);have f9:w9.frozen? ⟨s.g3,ka,none⟩=false:=FZ.out w9 J
    have e3:Hid _:=c7.out g cap w9 J b1 a9;refine hK.out _ _ ?_ (fun hHeld=>?_)
    ·exact⟨t3,ty,tq,tb⟩
    clear hK K b1 J a9 c7 FZ
    try simp[Act.put]
    refine zah (i:=19) ?_;simp[Act.put];clear hHeld;refine zeQ (by kernel_rfl) rfl (fun K hK=>?_);go_simp;refine hK.out _ _ ?_;clear hK K
    try simp[Act.put]
    refine zeP (by kernel_rfl) ?_ _;refine NoPanic.normal ?_
    go_wp2
    exact yw (v:=.tuple #[.int .i64 0,.int .i64 0]) (by simp[results,Tryz.results114,go_sem]) rfl e3.out
  ·have hN:q.e=E1/\q.w=W:=⟨by rw[HI.out.1,ya hE],HI.out.2.2 (by rw[ya hE];exact hE)⟩;have O:Hid _:=hN;have hz:(E1 == 0)=false:=(by simp[hE]);clear HI hN HR
   go_wp2
   exact yw (v:=.tuple #[.int .i64 0,.int .i64 E1]) (by simp[results,Tryz.results114,go_sem]) rfl ⟨0,s,by rw[O.out.1],fun h=>absurd (O.out.1.symm.trans h) hE,by rw[O.out.2];exact I2.out⟩
theorem zws{E K:Nat}:∀ V D:World,V.cell? ⟨E,0,none⟩=some (.func (.func K) #[] #[])->Below V.heap.size V D->D.cell? ⟨E,0,none⟩=some (.func (.func K) #[] #[]):=fun _ _ h F=>zab h F
theorem zpM{L:List Fr}{f t x:Int}(h:zdN L f t x=0):zaz L t=0:=(zca h).2.2.1
theorem zoB(me:Nat)(W:Wl)(x:Ac)(V:World)(H:zao W)(hm:me<W.fs.length):yM 79 #[.int .i64 x.k] V (zjY me W x V):=by
 by_cases U:x.k=9
 ·rw[U];refine ye (ztz V) (fun e V1 E=>zjY.may (C:=fun _=>True) (t:=x.n) E trivial (yK Tryz.func111 (by kernel_rfl) rfl) (yK Tryz.func112 (by kernel_rfl) rfl) (by decide) (fun V=>zhB x V) (fun _ _ _ _=>trivial) (fun h=>zjQ me W x h) ?_);rw[show zdT W me x=zBu W me x.n from yb U];exact zeu _ _ _ _ _
 by_cases D:x.k=13
 ·rw[D];refine ye (zqV V) (fun e V1 E=>zjY.may (C:=fun _=>True) (t:=x.n) E trivial (yK Tryz.func111 (by kernel_rfl) rfl) (yK Tryz.func116 (by kernel_rfl) rfl) (by decide) (fun V=>zhB x V) (fun _ _ _ _=>trivial) (fun h=>zrd me W x h) ?_);rw[show zdT W me x=zxM W me x.n from by unfold zdT;rw[ya U,yb D]];exact zeu _ _ _ _ _
 by_cases F:x.k=12
 ·rw[F];refine ye (zqU V) (fun e V1 E=>zjY.may (C:=fun _=>True) (t:=x.a) E trivial (yK Tryz.func113 (by kernel_rfl) rfl) (yK Tryz.func115 (by kernel_rfl) rfl) (by decide) (fun V=>zhA x V) (fun _ _ _ _=>trivial) (fun h=>zrx me W x (zpM h) _ (zeO _ _ _ _)) ?_);rw[show zdT W me x=zqi W me x.a x.b from by unfold zdT;rw[ya U,ya D,yb F]];exact zeu _ _ _ _ _
 by_cases I:x.k=10
 ·rw[I];refine ye (zqT V) (fun e V1 E=>zjY.may (C:=fun _=>True) (t:=x.a) E trivial (yK Tryz.func113 (by kernel_rfl) rfl) (yK Tryz.func114 (by kernel_rfl) rfl) (by decide) (fun V=>zhA x V) (fun _ _ _ _=>trivial) (fun h=>zuV me W x h) ?_);rw[show zdT W me x=zAE W me x.a x.n from by unfold zdT;rw[ya U,ya D,ya F,yb I]];exact zeu _ _ _ _ _
 by_cases J:x.k=21
 ·rw[J];refine ye (zrb V) (fun e V1 E=>zjY.may (C:=fun _=>True) (t:=x.n) E trivial (yK Tryz.func111 (by kernel_rfl) rfl) (yK Tryz.func117 (by kernel_rfl) rfl) (by decide) (fun V=>zhB x V) (fun _ _ _ _=>trivial) (fun h=>ztP me W x h) ?_);rw[show zdT W me x=wGo W me x.n x.a from by unfold zdT;rw[ya U,ya D,ya F,ya I,yb J]];exact zeu _ _ _ _ _
 by_cases M:x.k=16
 ·rw[M];refine ye (zqW V) (fun e V1 E=>⟨_,_,fun _=>True,E.1,E.2,trivial,(fun _ _ _ _=>trivial),(yK Tryz.func118 (by kernel_rfl) rfl),?_⟩);rw[show zdT W me x=zuZ W me from by unfold zdT;rw[ya U,ya D,ya F,ya I,ya J,yb M]];exact zue me W x
 by_cases O:x.k=17
 ·rw[O];refine ye (zqX V) (fun e V1 E=>?_);obtain⟨cb,E,hc⟩:=E;refine zjY.may (C:=fun V=>V.cell? ⟨cb,0,none⟩=some (.func (.func 120) #[] #[])) (t:=x.a) E hc (yK Tryz.func113 (by kernel_rfl) rfl) (yK Tryz.func143 (by kernel_rfl) rfl) (by decide) (fun V=>zhA x V) zws (fun h=>zeC 120 cb (yK Tryz.func120 (by kernel_rfl) rfl) me W x W _ _ (zyQ me W x (zpM h)) (fun h2=>zjx H h2) _ (by have h3:=zeO [zkr W.pt (many W) x.n me (zaD W me) x.a (zaD W x.a)] W { W with pt:=zhJ W.pt x.n x.a (zaD W x.a) } 0;rw[zkH] at h3;exact h3)) ?_;rw[show zdT W me x=zAA W me x.a x.n from by unfold zdT;rw[ya U,ya D,ya F,ya I,ya J,ya M,yb O]];exact zeu _ _ _ _ _
 by_cases Z:x.k=18
 ·rw[Z];refine ye (zqY V) (fun e V1 E=>?_);obtain⟨cb,he,hb,hc⟩:=E;refine⟨_,_,fun V=>V.cell? ⟨cb,0,none⟩=some (.func (.func 121) #[] #[]),he,hb,hc,zws,(yK Tryz.func143 (by kernel_rfl) rfl),zeC 121 cb (yK Tryz.func121 (by kernel_rfl) rfl) me W x W _ _ (zyU me W x) (fun h2=>zjA (n:=x.n) H (k:=me) (zat (zat (zat h2).2).2).1) _ ?_⟩;rw[show zdT W me x=zAC W me x.a x.n from by unfold zdT;rw[ya U,ya D,ya F,ya I,ya J,ya M,ya O,yb Z]];exact zeO _ _ _ _
 by_cases a5:x.k=19
 ·rw[a5];refine ye (zqZ V) (fun e V1 E=>?_);obtain⟨cb,he,hb,hc⟩:=E;refine⟨_,_,fun V=>V.cell? ⟨cb,0,none⟩=some (.func (.func 122) #[] #[]),he,hb,hc,zws,(yK Tryz.func143 (by kernel_rfl) rfl),zeC 122 cb (yK Tryz.func122 (by kernel_rfl) rfl) me W x _ _ _ (zyT me W x) (fun h2=>zgy H hm h2) _ ?_⟩;rw[show zdT W me x=zAB W me x.n from by unfold zdT;rw[ya U,ya D,ya F,ya I,ya J,ya M,ya O,ya Z,yb a5]];have h3:=zeO [zfy W.pt (many W) x.n me (zaD W me)] W { setR W me { rlm W me with i:=gr (pt W.pt x.n.toNat).cm 0 } with pt:=zhO W.pt x.n } 0;rw[zkH] at h3;exact h3
 by_cases T:x.k=20
 ·rw[T];refine ye (zra V) (fun e V1 E=>?_);obtain⟨cb,he,hb,hc⟩:=E;refine⟨_,_,fun V=>V.cell? ⟨cb,0,none⟩=some (.func (.func 123) #[] #[]),he,hb,hc,zws,(yK Tryz.func143 (by kernel_rfl) rfl),zeC 123 cb (yK Tryz.func123 (by kernel_rfl) rfl) me W x W _ _ (zyX me W x) (fun h2=>zjL (k:=me) H h2) _ ?_⟩;rw[show zdT W me x=zAD W me x.n from by unfold zdT;rw[ya U,ya D,ya F,ya I,ya J,ya M,ya O,ya Z,ya a5,yb T]];have h3:=zeO [zaU W.pt (many W) x.n me (zaD W me)] W { W with pt:=zhX W.pt x.n } 0;rw[zkH] at h3;exact h3
 refine ye (zrc x.k V ⟨U,I,F,D,J,M,O,Z,a5,T⟩) (fun e V1 E=>⟨_,_,fun _=>True,E.1,E.2,trivial,(fun _ _ _ _=>trivial),(yK Tryz.func124 (by kernel_rfl) rfl),?_⟩);rw[show zdT W me x=wDo W me x from by unfold zdT;rw[ya U,ya D,ya F,ya I,ya J,ya M,ya O,ya Z,ya a5,ya T]];exact zvJ me W x
end Go.Proofs.YtcbcpomacdngmaaGreat
