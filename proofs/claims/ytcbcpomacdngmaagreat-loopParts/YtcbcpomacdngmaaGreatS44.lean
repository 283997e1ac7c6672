/-
  x
-/
import Derived.Test.YtcbcpomacdngmaaGreatS43
namespace Go.Proofs.YtcbcpomacdngmaaGreat
set_option maxRecDepth 100000
set_option maxHeartbeats 4000000
set_option linter.unusedVariables false
open Go.RowKit Go.ChangeShapes Go.WideShapes
theorem SW.moved{J:W0}{d me:Nat}{W:Wl}{s:SD}{V:World}(I:SW J d me W s V){D g c0 r:Nat}{a0 a1:Option Addr}{o:Int}(Z:D<W.fs.length)(O:goE W.fs D o=0)(hf:St (SX J.heap.size d s) (fun V=>zaP V (some ⟨g,0,none⟩) (goF W.fs D o)) V)(hn:St (SX J.heap.size d s) (fun V=>zai V a0 (List.replicate r zaZ)/\zas V a1 (List.replicate 16 (0,0))) V)(hr:(rlm W D).s.length=r) :
  ∃ s', SW J d me { fs:=goF W.fs D o,rs:=W.rs.set D (zdl r),ps:=W.ps.set D [],qs:=W.qs.set D [],pt:=W.pt } s' (((((((V.setCell ⟨d,0,none⟩ (.slice (some ⟨g,0,none⟩) W.fs.length W.fs.length)).setCell ⟨s.g1,D*4,none⟩ (.slice a0 r c0)).setCell ⟨s.g1,D*4+1,none⟩ (.slice a1 16 16)).setCell ⟨s.g1,D*4+2,none⟩ (.slice none 0 0)).setCell ⟨s.g1,D*4+3,none⟩ (.slice none 0 0)).setCell ⟨s.g2,D,none⟩ (.slice none 0 0)).setCell ⟨s.g3,D,none⟩ (.slice none 0 0)):=by
 have hl:=zgU W.fs (D:Int) o;have n8:=I.rt.fs.few;have hs:r<=24:=by rw[<- hr];exact(zaB (I.rt.rs D Z)).1.small
 obtain⟨n1,M⟩:=zjs r hs;have F:=I.frames (a:=some ⟨g,0,none⟩) (c:=W.fs.length) (L:=goF W.fs D o) hf hl (zao.frames I.rt (zpz O) hl) ⟨(fun e=>by cases e),by rw[hl];exact yj _,by omega⟩;have ho:zaq (SX J.heap.size d s) V (V.setCell ⟨d,0,none⟩ (.slice (some ⟨g,0,none⟩) W.fs.length W.fs.length)):=zaq.set V _ (.inr (.inl rfl));have E:D<(goF W.fs D o).length:=by rw[hl];exact Z
 have R:=F.realm (k:=D) (A:=⟨a0,a1,none,none,c0,16,0,0⟩) (Q:=zdl r) E n1 (by rw[M];exact fun T h=>⟨(hn.off ho T h).1,(hn.off ho T h).2,fun _ h=>absurd h (yx _)⟩) (by rw[M];exact fun _ _ _ h=>absurd h (yx _)) (fun _=>⟨by rw[M];rfl,fun U h=>by cases h⟩) rfl;have P:=R.noprog (k:=D) E;have Q:=P.queue (k:=D) (a:=none) (c:=0) (q:=[]) (G:=fun _=>(none,0)) E (fun _ _ U h=>by cases h) ⟨fun _=>rfl,fun U h=>by cases h⟩ rfl (fun j hj=>absurd hj (yx _)) (zao.queue (q:=[]) P.rt E rfl);have e:(zdl r).s.length=r/\(zdl r).hs.length=16/\(zdl r).i.length=0/\(zdl r).t.length=0:=by rw[M];simp
 rw[e.1,e.2.1,e.2.2.1,e.2.2.2] at Q;exact⟨_,Q⟩
theorem zpx(w:World)(a:Addr)(v:Value):w.drew.setCell a v=(w.setCell a v).drew:=rfl
theorem zxe(w:World){F D:Nat}{T I J M O:Nat}{v u0 u1 u2 u3:Value}{j:Nat}(h1:j≠F)(E:j≠D):(((((w.setCell ⟨F,T,none⟩ v).setCell ⟨D,I,none⟩ u0).setCell ⟨D,J,none⟩ u1).setCell ⟨D,M,none⟩ u2).setCell ⟨D,O,none⟩ u3).heap[j]?=w.heap[j]?:=by
 rw[yv _ _ _ _ E,yv _ _ _ _ E,yv _ _ _ _ E,yv _ _ _ _ E,yv _ _ _ _ h1]
theorem ztP(me:Nat)(W:Wl)(x:Ac)(hm:zdN W.fs me x.n 5=0):zhp 117 #[] (fun _=>True) me W x (zfe [goE W.fs x.n x.a] W { fs:=goF W.fs x.n x.a,rs:=W.rs.set x.n.toNat (zdl (rlm W x.n.toNat).s.length),ps:=W.ps.set x.n.toNat [],qs:=W.qs.set x.n.toNat [],pt:=W.pt } 0):=fun w0 d s V I _=>by
 have QI:=zeO [goE W.fs x.n x.a] W { fs:=goF W.fs x.n x.a,rs:=W.rs.set x.n.toNat (zdl (rlm W x.n.toNat).s.length),ps:=W.ps.set x.n.toNat [],qs:=W.qs.set x.n.toNat [],pt:=W.pt } 0;rw[zkH] at QI;obtain⟨q,d8⟩:∃ q,zfe [goE W.fs x.n x.a] W { fs:=goF W.fs x.n x.a,rs:=W.rs.set x.n.toNat (zdl (rlm W x.n.toNat).s.length),ps:=W.ps.set x.n.toNat [],qs:=W.qs.set x.n.toNat [],pt:=W.pt } 0=q:=⟨_,rfl⟩;rw[d8] at QI |-;clear d8;obtain⟨D,d7,a9,_⟩:=zdv (zca hm).2.2.1;obtain⟨xk,xa,xb,xc,xn⟩:=x;have II:Hid (SW w0 d me W s V):=I;have e0:=I.lt;have b6:Hid _:=e0;obtain⟨l0,l1,l2,l3,l4,lf,ll⟩:=zal I.box;have j6:d<V.heap.size:=ll;have n8:W.fs.length<=8:=I.rt.fs.few;have h6:me<W.fs.length:=I.sf;clear e0;dsimp only at d7 QI |-;subst d7;rw[yi] at QI;clear hm;obtain⟨k0,k1,k2,k3,kf,kl⟩:=I.rcells a9;have j7:s.g2<V.heap.size:=I.r2.lt;have j8:s.g3<V.heap.size:=I.r3.lt;have J:=I.ap;have e8:(rlm W D).s.length<=24:=(zaB (I.rt.rs D a9)).1.small;have D0:Hid (goE W.fs D xa≠0->∀ O,Below V.heap.size V O->Calls _ _ _ _ _):=fun U O hV=>zzP s.a0 s.c0 W.fs D xa O (by omega) ((I.dp.fr.at).below hV) U;have D1:Hid (goE W.fs D xa=0->∀ O,Below V.heap.size V O->Calls _ _ _ _ _):=fun U O hV=>go_ok s.a0 s.c0 W.fs D xa O ((I.dp.fr.at).below hV) U;show yM _ #[.pointer (some ⟨d,0,none⟩),.int .i64 (me:Int),.agg #[.int .i64 xk,.int .i64 xa,.int .i64 xb,.int .i64 xc,.int .i64 (D:Int)]] V _;obtain⟨n,hn⟩:∃ n,W.fs.length=n:=⟨_,rfl⟩;have HN:Hid (W.fs.length=n):=hn;obtain⟨nt,b2⟩:∃ n,W.pt.length=n:=⟨_,rfl⟩;have g0:Hid (W.pt.length=nt):=b2
 rw[b2] at l4;have j9:D<n:=by omega
 rw[hn] at l0 l1 l2 l3 n8 h6 D0 D1;obtain⟨r,hr⟩:∃ r,(rlm W D).s.length=r:=⟨_,rfl⟩;have g4:Hid ((rlm W D).s.length=r):=hr;rw[hr] at k0 QI e8;obtain⟨E,U⟩:∃ E,goE W.fs D xa=E:=⟨_,rfl⟩;have HE:Hid (goE W.fs D xa=E):=U;rw[U] at D0 D1 QI;have a8:Hid _:=a9;have i9:Hid _:=J;have d1:¬ d=s.g1:=J.d1;have d2:¬ d=s.g2:=J.d2;have d3:¬ d=s.g3:=J.d3;have g5:¬ s.g1=s.g2:=J.g12;have g6:¬ s.g1=s.g3:=J.g13;have g7:¬ s.g2=s.g3:=J.g23;clear hn b2 I hr U a9 J k1 k2 k3;have i0:(D:Int)<(n:Int):=by omega
 have HI:Hid _:=QI;clear QI
 go_enter Tryz.func117,Tryz.ntmps117
 go_upto_region 1 with fail
 obtain⟨V1,d4,BV,y0,y1,y2,y3,y4,sV⟩:=zcz V xk xa xb xc (D:Int);rw[d4];clear d4;replace l0:=zab l0 BV.out;replace l1:=zab l1 BV.out;replace l2:=zab l2 BV.out;replace l3:=zab l3 BV.out;replace l4:=zab l4 BV.out;replace k0:=zab k0 BV.out;have k4:d<V1.heap.size:=by omega
 have k5:s.g1<V1.heap.size:=by omega
 by_cases U:E=0
 ·subst U;have hN:q.e=0/\q.w={ fs:=goF W.fs D xa,rs:=W.rs.set D (zdl r),ps:=W.ps.set D [],qs:=W.qs.set D [],pt:=W.pt }/\q.o=0:=⟨HI.out.1,HI.out.2.1 rfl⟩;have M:Hid _:=hN;have DD:Hid (∀ O,Below V.heap.size V O->Calls _ _ _ _ _):=D1.out rfl;have DN:Hid (∀ O,Calls _ _ _ _ _):=fun O=>ztS r O e8;clear hN HI D0 D1
  go_region_held3 (fun F=>F.cell? ⟨d,0,none⟩=some (.slice s.a0 n s.c0)/\F.cell? ⟨V.heap.size,4,none⟩=some (.int .i64 (D:Int))/\F.cell? ⟨V.heap.size,1,none⟩=some (.int .i64 xa)) (go_keep) (first|(go_at_call 141;refine ye (DD.out V1.drew BV.out.drew) ?_;rintro e w3 ⟨g,rfl,a6,b0,d6⟩;have T:Hid (Below V1.heap.size V1 w3):=(yk _ _).drew.trans a6;have F3:Hid (zaP w3 (some ⟨g,0,none⟩) (goF W.fs D xa)):=d6;have c7:=zab l0 T.out;have c9:=zab y4 T.out;have c8:=zab y1 T.out;clear a6 d6))
  have s3:V1.heap.size<=w3.heap.size:=T.out.size;have gg:V1.heap.size<=g:=by simpa using b0
  have m1:=zab l1 T.out;have my:=zab y4 T.out;have mr:=zab k0 T.out;clear l0 l1 l2 l3 l4 k0 c7 c9 c8 b0 DD y0 y1 y2 y3;have n0:¬ w3.heap.size=d:=by omega
  have o0:¬ d=w3.heap.size:=by omega
  have n1:¬ w3.heap.size=s.g1:=by omega
  have o1:¬ s.g1=w3.heap.size:=by omega
  have n2:¬ w3.heap.size=V.heap.size:=by omega
  have o2:¬ V.heap.size=w3.heap.size:=by omega
  have i1:d<w3.heap.size:=by omega
  have i2:s.g1<w3.heap.size:=by omega
  go_upto_region 4 with fail
  go_cut [9,10] (fun s9 s10 wx=>∃ (b:Nat) (a0 a1:Option Addr) (c0:Nat),s10=.pointer (some ⟨b,0,none⟩)/\s9=.int .i64 0/\Hid (Below w3.heap.size w3 wx)/\Hid (wx.heap[b]?=some (.cells #[.slice a0 r c0,.slice a1 16 16,.slice none 0 0,.slice none 0 0] 50 (0,0)))/\w3.heap.size<=b/\Hid (St (fun b=>b<w3.heap.size) (fun V=>zai V a0 (List.replicate r zaZ)/\zas V a1 (List.replicate 16 (0,0))) wx))
  case first =>
   go_region_held3 (fun F=>F.cell? ⟨d,1,none⟩=some (.slice (some ⟨s.g1,0,none⟩) n n)/\F.cell? ⟨V.heap.size,4,none⟩=some (.int .i64 (D:Int))/\F.cell? ⟨s.g1,D*4,none⟩=some (.slice (s.R D).a0 r (s.R D).c0)) (go_keep) (first|(go_at_call 28;refine ye (DN.out w3.drew) ?_;rintro e w5 ⟨a0,a1,c0,rfl,Z,a7⟩;have B5:Hid (Below w3.heap.size w3 w5):=(yk _ _).drew.trans Z;have C5:Hid (St (fun b=>b<w3.heap.size) (fun V=>zai V a0 (List.replicate r zaZ)/\zas V a1 (List.replicate 16 (0,0))) w5):=a7;have g8:=zab m1 B5.out;have h4:=zab my B5.out;have g9:=zab mr B5.out;clear Z a7)|(go_at_call 28;refine ye (DN.out (w3.alloc (.cells #[.slice none 0 0,.slice none 0 0,.slice none 0 0,.slice none 0 0] 50)).drew) ?_;rintro e w5 ⟨a0,a1,c0,rfl,Z,a7⟩;have B5:Hid (Below w3.heap.size w3 w5):=(zaa w3 _).drew.trans (Z.mono (by simp));have C5:Hid (St (fun b=>b<w3.heap.size+1) (fun V=>zai V a0 (List.replicate r zaZ)/\zas V a1 (List.replicate 16 (0,0))) w5):=(by have h:=a7;simp only[yr,World.size_drew] at h;exact h);have g8:=zab m1 B5.out;have h4:=zab my B5.out;have g9:=zab mr B5.out;have X5:Hid (w5.heap[w3.heap.size]?=some (.cells #[.slice none 0 0,.slice none 0 0,.slice none 0 0,.slice none 0 0] 50 (0,0))):=zaA (W:=(w3.alloc (.cells #[.slice none 0 0,.slice none 0 0,.slice none 0 0,.slice none 0 0] 50)).drew) (yL w3 _) Z;obtain⟨x0,x1,x2,x3,xf,xl⟩:=zak X5.out;clear Z a7))
   ·go_wp2_with fail
    go_meet
    case rel=>exact⟨_,a0,a1,c0,rfl,rfl,B5.out.trans ((zaa _ _).mono B5.out.size),zcc _ _ _ _ _ _,B5.out.size,C5.out.off (zaq.of_below (zaa _ _))⟩
   ·go_wp2_with fail
    go_meet
    case rel=>exact⟨_,a0,a1,c0,rfl,rfl,(((B5.out.setCell (yj _) _).setCell (yj _) _).setCell (yj _) _).setCell (yj _) _,zcL X5.out,yj _,(C5.out.off (zpY (Nat.lt_succ_self _) _ _ _ _ _)).less (fun b hb=>Nat.lt_succ_of_lt hb)⟩
  case rest =>
   obtain⟨b,a0,a1,c0,rfl,rfl,HB,HX,j5,HC⟩:=hcut;have b1:Hid (Below V.heap.size V w3):=BV.out.trans (T.out.mono BV.out.size);have BW:Hid (Below V.heap.size V wc):=b1.out.trans (HB.out.mono b1.out.size);have I2:Hid _:=II.out.below BW.out;have FF:Hid (St (SX w0.heap.size d s) (fun V=>zaP V (some ⟨g,0,none⟩) (goF W.fs D xa)) wc):=zxA (F3.out.below HB.out) (fun h=>by have:=b6.out g h;omega);have b5:Hid _:=HC.out.less (fun b hb=>yz (b6.out b hb) b1.out.size)
   have b3:Hid (zdJ w0 d me q (.returned (.tuple #[.int .i64 0,.int .i64 0])) (((((((wc.setCell ⟨d,0,none⟩ (.slice (some ⟨g,0,none⟩) n n)).setCell ⟨s.g1,D*4,none⟩ (.slice a0 r c0)).setCell ⟨s.g1,D*4+1,none⟩ (.slice a1 16 16)).setCell ⟨s.g1,D*4+2,none⟩ (.slice none 0 0)).setCell ⟨s.g1,D*4+3,none⟩ (.slice none 0 0)).setCell ⟨s.g2,D,none⟩ (.slice none 0 0)).setCell ⟨s.g3,D,none⟩ (.slice none 0 0))):=by
    obtain⟨s', d9⟩:=I2.out.moved (c0:=c0) a8.out HE.out FF.out b5.out g4.out;rw[HN.out] at d9;refine⟨0,s', by rw[M.out.1],fun _=>M.out.2.2.symm,?_⟩;rw[M.out.2.1];exact d9
   obtain⟨e4,e5,e6,e7,h7,k6,k7⟩:=zal I2.out.box;rw[HN.out] at e4 e5 e6 e7;obtain⟨z0,z1,z2,z3,zl⟩:=zxZ HX.out;have b7:(wc.setCell ⟨d,0,none⟩ (.slice (some ⟨g,0,none⟩) n n)).cell? ⟨d,1,none⟩=some (.slice (some ⟨s.g1,0,none⟩) n n):=(by have h:(wc.setCell ⟨d,0,none⟩ (.slice (some ⟨g,0,none⟩) n n)).heap[d]?=some (.cells #[.slice (some ⟨g,0,none⟩) n n,.slice (some ⟨s.g1,0,none⟩) W.fs.length W.fs.length,.slice (some ⟨s.g2,0,none⟩) W.fs.length W.fs.length,.slice (some ⟨s.g3,0,none⟩) W.fs.length W.fs.length,.slice s.a4 W.pt.length s.c4] 28 (0,0)):=zaS (i:=0) I2.out.box;have h2:=(zal h).2.1;rw[HN.out] at h2;exact h2);have e9:Hid ((wc.setCell ⟨d,0,none⟩ (.slice (some ⟨g,0,none⟩) n n)).heap[d]?=some (.cells #[.slice (some ⟨g,0,none⟩) n n,.slice (some ⟨s.g1,0,none⟩) n n,.slice (some ⟨s.g2,0,none⟩) n n,.slice (some ⟨s.g3,0,none⟩) n n,.slice s.a4 nt s.c4] 28 (0,0))):=(by have h:=I2.out.box;rw[HN.out,g0.out] at h;exact zaS (i:=0) h);have b8:(wc.setCell ⟨d,0,none⟩ (.slice (some ⟨g,0,none⟩) n n)).drew.cell? ⟨d,1,none⟩=some (.slice (some ⟨s.g1,0,none⟩) n n):=b7;obtain⟨j0,j1,j2,j3,jf,jl⟩:=I2.out.rcells a8.out;have p2:wc.cell? ⟨s.g2,D,none⟩=some (.slice (s.P D).1 (prg W D).length (s.P D).2):=I2.out.r2.cell a8.out;have p3:wc.cell? ⟨s.g3,D,none⟩=some (.slice (s.Q D).1 (que W D).length (s.Q D).2):=I2.out.r3.cell a8.out;have f2:wc.frozen? ⟨s.g2,D,none⟩=false:=I2.out.r2.frozen _;have f3:wc.frozen? ⟨s.g3,D,none⟩=false:=I2.out.r3.frozen _;have yy:=zab my HB.out;clear m1 my mr F3 FF HC b5 HX I2 DN
   have k8:¬ b=d:=(by omega);have i3:¬ d=b:=(by omega);have k9:¬ b=s.g1:=(by omega);have i4:¬ s.g1=b:=(by omega);have h8:¬ V.heap.size=d:=(by omega);have i5:¬ d=V.heap.size:=(by omega);have h9:¬ V.heap.size=s.g1:=(by omega);have i6:¬ s.g1=V.heap.size:=(by omega);have l5:¬ V.heap.size=s.g2:=(by omega);have i7:¬ s.g2=V.heap.size:=(by omega);have l6:¬ V.heap.size=s.g3:=(by omega);have i8:¬ s.g3=V.heap.size:=(by omega);have e1:¬ s.g1=d:=fun e=>d1 e.symm;have e2:¬ s.g2=d:=fun e=>d2 e.symm;have e3:¬ s.g3=d:=fun e=>d3 e.symm;have b9:¬ s.g2=s.g1:=fun e=>g5 e.symm;have c6:¬ s.g3=s.g1:=fun e=>g6 e.symm;have j4:¬ s.g3=s.g2:=fun e=>g7 e.symm
   go_wp2_with fail
   go_region_held3 (fun F=>F.cell? ⟨d,1,none⟩=some (.slice (some ⟨s.g1,0,none⟩) n n)/\F.cell? ⟨V.heap.size,4,none⟩=some (.int .i64 (D:Int))/\F.cell? ⟨b,0,none⟩=some (.slice a0 r c0)/\F.cell? ⟨b,1,none⟩=some (.slice a1 16 16)/\F.cell? ⟨b,2,none⟩=some (.slice none 0 0)/\F.cell? ⟨b,3,none⟩=some (.slice none 0 0)) (go_keep) (fail)
   go_wp2_with fail
   obtain⟨V7,a5⟩:∃ V7,(((((wc.setCell ⟨d,0,none⟩ (.slice (some ⟨g,0,none⟩) n n)).setCell ⟨s.g1,D*4,none⟩ (.slice a0 r c0)).setCell ⟨s.g1,D*4+1,none⟩ (.slice a1 16 16)).setCell ⟨s.g1,D*4+2,none⟩ (.slice none 0 0)).setCell ⟨s.g1,D*4+3,none⟩ (.slice none 0 0)).drew=V7:=⟨_,rfl⟩
   have b4:Hid (zdJ w0 d me q (.returned (.tuple #[.int .i64 0,.int .i64 0])) ((V7.setCell ⟨s.g2,D,none⟩ (.slice none 0 0)).setCell ⟨s.g3,D,none⟩ (.slice none 0 0)).drew):=by
    obtain⟨o,s', h1,h2,h3⟩:=b3.out;rw[<- a5,zpx,zpx];exact⟨o,s', h1,h2,h3.below (yk _ _).drew.drew⟩
   have far:∀ j,j≠d->j≠s.g1->V7.heap[j]?=wc.heap[j]?:=fun j h1 h2=>by rw[<- a5];exact zxe wc h1 h2
   have d5:V7.heap[d]?=some (.cells #[.slice (some ⟨g,0,none⟩) n n,.slice (some ⟨s.g1,0,none⟩) n n,.slice (some ⟨s.g2,0,none⟩) n n,.slice (some ⟨s.g3,0,none⟩) n n,.slice s.a4 nt s.c4] 28 (0,0)):=by
    rw[<- a5];show ((((((wc.setCell ⟨d,0,none⟩ (.slice (some ⟨g,0,none⟩) n n)).setCell ⟨s.g1,D*4,none⟩ (.slice a0 r c0)).setCell ⟨s.g1,D*4+1,none⟩ (.slice a1 16 16)).setCell ⟨s.g1,D*4+2,none⟩ (.slice none 0 0)).setCell ⟨s.g1,D*4+3,none⟩ (.slice none 0 0))).heap[d]?=_;rw[yv _ _ _ _ d1,yv _ _ _ _ d1,yv _ _ _ _ d1,yv _ _ _ _ d1];exact e9.out
   rw[a5];clear a5 b3 b7 b8 e4 e5 e6 e7 h7 z0 z1 z2 z3 j0 j1 j2 j3;obtain⟨_,_,v2,v3,_,vf,vl⟩:=zal d5;have u2:=(yC (far s.g2 e2 b9)).trans p2;have u3:=(yC (far s.g3 e3 c6)).trans p3;have w2:=(yD (far s.g2 e2 b9)).trans f2;have l7:=(yD (far s.g3 e3 c6)).trans f3;have y7:=(yC (far V.heap.size h8 h9)).trans yy;clear p2 p3 f2 f3 yy far d5
   go_region_held3 (fun F=>F.cell? ⟨d,2,none⟩=some (.slice (some ⟨s.g2,0,none⟩) n n)/\F.cell? ⟨d,3,none⟩=some (.slice (some ⟨s.g3,0,none⟩) n n)/\F.cell? ⟨V.heap.size,4,none⟩=some (.int .i64 (D:Int))) (go_keep) (fail)
   go_wp2
   exact yw (v:=.tuple #[.int .i64 0,.int .i64 0]) (by simp[results,Tryz.results117,go_sem]) rfl b4.out
 ·have hN:q.e=E/\q.w=W:=⟨HI.out.1,HI.out.2.2 U⟩;have M:Hid _:=hN;have hz:(E == 0)=false:=by simp[U]
  have DD:Hid (∀ O,Below V.heap.size V O->Calls _ _ _ _ _):=D0.out U;clear HI hN D0 D1
  go_region_held3 (fun F=>F.cell? ⟨d,0,none⟩=some (.slice s.a0 n s.c0)/\F.cell? ⟨V.heap.size,4,none⟩=some (.int .i64 (D:Int))/\F.cell? ⟨V.heap.size,1,none⟩=some (.int .i64 xa)) (go_keep) (first|(go_at_call 141;refine ye (DD.out V1.drew BV.out.drew) ?_;rintro e w3 ⟨rfl,a6⟩;have T:Hid (Below V1.heap.size V1 w3):=(yk _ _).drew.trans a6;have c7:=zab l0 T.out;have c9:=zab y4 T.out;have c8:=zab y1 T.out;clear a6))
  go_wp2
  exact yw (v:=.tuple #[.int .i64 0,.int .i64 E]) (by simp[results,Tryz.results117,go_sem]) rfl ⟨0,s,by rw[M.out.1],fun h=>absurd (M.out.1.symm.trans h) U,by rw[M.out.2];exact II.out.below (BV.out.trans (T.out.mono BV.out.size))⟩
theorem zoV:zse 89:=by
 intro x y ka a6 kc a7 W hN hB h1 h2;have E:Hid (x=y↔(x.f=y.f/\x.g=y.g)):=zAm x y;have D:Hid (∀ o1 o2,Calls _ _ _ _ _):=fun o1 o2=>zjc ka a6 kc a7 x.g y.g ((W.alloc o1).alloc o2) hN hB (h1.below (zaf _ _ _)) (h2.below (zaf _ _ _));clear h1 h2 hN hB;obtain⟨J,O⟩:=x;obtain⟨M,T⟩:=y;dsimp only at E D |-;generalize Z:O.length=xl at D |-;generalize a5:T.length=yl at D |-;clear Z a5;by_cases I:J=M
 ·have F:Hid ((⟨J,O⟩:Ml)=⟨M,T⟩↔O=T):=by show _↔_;rw[E.out];simp[I]
  subst I;clear E
  go_enter Tryz.func89,Tryz.ntmps89
  go_wp2_with fail
  refine ye (D.out _ _) ?_;rintro e w1 ⟨r,rfl,hb,hr⟩;have HB:Hid (Below W.heap.size W w1):=(zaf _ _ _).trans (hb.mono (by simp;omega));have U:Hid _:=hr;clear hb hr
  go_wp2
  go_ret;exact⟨r,rfl,HB.out,U.out.trans F.out.symm⟩
 ·have hd:decide (J=M)=false:=yF I;have a8:(J == M)=false:=by simp[I]
  have U:Hid (¬ (⟨J,O⟩:Ml)=⟨M,T⟩):=fun h=>I (E.out.1 h).1;clear E
  go_enter Tryz.func89,Tryz.ntmps89
  go_wp2_with fail
  go_ret;exact⟨false,rfl,zaf _ _ _,⟨fun h=>(by cases h),fun h=>absurd h U.out⟩⟩
theorem zru(a E:Option Addr)(c F:Nat)(S D:List Ml)(w:World)(U:S.length<=9223372036854775807)(J:zAQ S)(h1:zeW w a S)(I:zeW w E D) :
  yM 56 #[.slice a S.length c,.slice E D.length F] w fun e w' => ∃ r:Bool,e=.returned (.bool r)/\Below w.heap.size w w' /\(r=true↔S=D):=by
 have O:Hid _:=zmF 89 (yK Tryz.func89 (by kernel_rfl) rfl) zoV a E c F S D w U J h1 I;clear h1 I J;generalize S.length=n at *;generalize D.length=n' at *
 go_enter Tryz.func56,Tryz.ntmps56
 go_wp2_with fail
 refine ye O.out ?_;rintro e w1 ⟨r,rfl,Z,M⟩;have T:Hid _:=M;clear M
 go_wp2
 go_ret;exact⟨r,rfl,Z,T.out⟩
theorem zAY(K:Nat)(eg:∀ args w,(callFunc K args).run Tryz.prog w=.ok (.enter K args) w)(a a' : Option Addr)(c c' n J:Nat)(S D:Nat->ERl)(P:Nat->Prop)(w:World)(hn:n<=9223372036854775807)
  (hs:∀ i,i<n->∃ b o,a=some ⟨b,o,none⟩/\w.cell? ⟨b,o+i*4,none⟩=some (.slice (S i).sa (S i).sl (S i).sc)/\w.cell? ⟨b,o+i*4+1,none⟩=some (.slice (S i).ha (S i).hl (S i).hc)/\w.cell? ⟨b,o+i*4+2,none⟩=some (.slice (S i).ia (S i).il (S i).ic)/\w.cell? ⟨b,o+i*4+3,none⟩=some (.slice (S i).ta (S i).tl (S i).tc))
  (I:∀ i,i<J->∃ b o,a' = some ⟨b,o,none⟩/\w.cell? ⟨b,o+i*4,none⟩=some (.slice (D i).sa (D i).sl (D i).sc)/\w.cell? ⟨b,o+i*4+1,none⟩=some (.slice (D i).ha (D i).hl (D i).hc)/\w.cell? ⟨b,o+i*4+2,none⟩=some (.slice (D i).ia (D i).il (D i).ic)/\w.cell? ⟨b,o+i*4+3,none⟩=some (.slice (D i).ta (D i).tl (D i).tc))
  (hK:∀ i,i<n->i<J->∀ W,Below w.heap.size w W->yM K #[.agg #[.slice (S i).sa (S i).sl (S i).sc,.slice (S i).ha (S i).hl (S i).hc,.slice (S i).ia (S i).il (S i).ic,.slice (S i).ta (S i).tl (S i).tc],.agg #[.slice (D i).sa (D i).sl (D i).sc,.slice (D i).ha (D i).hl (D i).hc,.slice (D i).ia (D i).il (D i).ic,.slice (D i).ta (D i).tl (D i).tc]] W fun e W' => ∃ r:Bool,e=.returned (.bool r)/\Below W.heap.size W W' /\(r=true↔P i)) :
  yM 53 #[.slice a n c,.slice a' J c', .func (.func K) #[] #[]] w fun e w' => ∃ r:Bool,e=.returned (.bool r)/\Below w.heap.size w w' /\(r=true↔n=J/\∀ i,i<n->P i):=by
 by_cases hl:n=J
 ·subst hl;have H1:Hid _:=hs;have H2:Hid _:=I;have HK:Hid (∀ i,i<n->∀ W,Below w.heap.size w W->yM K #[.agg #[.slice (S i).sa (S i).sl (S i).sc,.slice (S i).ha (S i).hl (S i).hc,.slice (S i).ia (S i).il (S i).ic,.slice (S i).ta (S i).tl (S i).tc],.agg #[.slice (D i).sa (D i).sl (D i).sc,.slice (D i).ha (D i).hl (D i).hc,.slice (D i).ia (D i).il (D i).ic,.slice (D i).ta (D i).tl (D i).tc]] W fun e W' => ∃ r:Bool,e=.returned (.bool r)/\Below W.heap.size W W' /\(r=true↔P i)):=fun i hi=>hK i hi hi;clear hs I hK
  go_enter Tryz.func53,Tryz.ntmps53
  go_wp2
  go_loopg [17] n (fun g s17 wr=>∃ k:Nat,k<=n/\n-k<=g/\s17=.int .i64 k/\Below w.heap.size w wr/\Hid (∀ i,i<k->P i))
  case atStart=>exact⟨0,by omega,by omega,rfl,yk _ _,fun i hi=>absurd hi (yx _)⟩
  case round =>
   obtain⟨k,hk,hg,rfl,E,A⟩:=hrel;by_cases F:k<n
   ·have a6:(k:Int)<(n:Int):=(by omega);obtain⟨b,o,rfl,c0,c1,c2,c3⟩:=H1.out k F;obtain⟨b', o', rfl,O,e1,e2,e3⟩:=H2.out k F;replace c0:=zab c0 E;replace O:=zab O E;replace c1:=zab c1 E;replace e1:=zab e1 E;replace c2:=zab c2 E;replace e2:=zab e2 E;replace c3:=zab c3 E;replace e3:=zab e3 E;have a7:=yd _ _ c0;have a5:=yd _ _ O;have D1:Hid (∀ W,Below wr.heap.size wr W->Calls _ _ _ _ _):=fun W hW=>HK.out k F W (E.trans (hW.mono E.size));have U:Hid (¬ P k->¬ ∀ i,i<n->P i):=fun h h2=>h (h2 k F)
    have KK:Hid (P k->∀ i,i<k+1->P i):=fun h i hi=>by
     by_cases e:i=k
     ·subst e;exact h
     ·exact A.out i (by omega)
    generalize S k=x at *;obtain⟨b5,b7,b6,a9,b1,b0,b2,b4,b3,b8,c6,b9⟩:=x;generalize D k=y at *;obtain⟨d7,d9,d8,c7,c9,c8,d4,d6,d5,e4,e6,e5⟩:=y;dsimp only at c0 O c1 e1 c2 e2 c3 e3 D1
    go_wp2_with fail
    refine(D1.out _ ?nd).mono ?_
    case nd=>exact zaf _ _ _
    rintro e w3 ⟨r,rfl,M,T⟩
    cases r with
    | true =>
     have HR:Hid _:=T.1 rfl;clear T
     go_wp2
     go_roundg (n-(k+1))
     case measure=>omega
     case rel=>exact⟨k+1,by omega,by omega,by go_num,(E.trans ((zaf _ _ _).mono E.size)).trans (M.mono (by simp;have:=E.size;omega)),KK.out HR.out⟩
    | false =>
     have HR:Hid _:=U.out fun e=>by have:=T.2 e;cases this
     clear T
     go_wp2
     go_ret;exact⟨false,rfl,(E.trans ((zaf _ _ _).mono E.size)).trans (M.mono (by simp;have:=E.size;omega)),⟨fun h=>(by cases h),fun h=>absurd h.2 HR.out⟩⟩
   ·have:k=n:=(by omega);subst this
    go_wp2
    go_ret;exact⟨true,rfl,E,⟨fun _=>⟨trivial,A.out⟩,fun _=>rfl⟩⟩
 ·have a8:¬ ((n:Int)=(J:Int)):=by omega
  have Z:Hid (n≠J):=hl;clear hs I hK hl
  go_enter Tryz.func53,Tryz.ntmps53
  go_wp2
  go_ret;exact⟨false,rfl,yk _ _,⟨fun h=>(by cases h),fun h=>absurd h.1 Z.out⟩⟩
theorem zAW(K:Nat)(eg:∀ args w,(callFunc K args).run Tryz.prog w=.ok (.enter K args) w)(a a' : Option Addr)(c c' n J:Nat)(S D:Nat->EPg)(P:Nat->Prop)(w:World)(hn:n<=9223372036854775807)
  (hs:∀ i,i<n->∃ b o,a=some ⟨b,o,none⟩/\w.cell? ⟨b,o+i,none⟩=some (.slice (S i).pa (S i).pl (S i).pc))
  (I:∀ i,i<J->∃ b o,a' = some ⟨b,o,none⟩/\w.cell? ⟨b,o+i,none⟩=some (.slice (D i).pa (D i).pl (D i).pc))
  (hK:∀ i,i<n->i<J->∀ W,Below w.heap.size w W->yM K #[.slice (S i).pa (S i).pl (S i).pc,.slice (D i).pa (D i).pl (D i).pc] W fun e W' => ∃ r:Bool,e=.returned (.bool r)/\Below W.heap.size W W' /\(r=true↔P i)) :
  yM 54 #[.slice a n c,.slice a' J c', .func (.func K) #[] #[]] w fun e w' => ∃ r:Bool,e=.returned (.bool r)/\Below w.heap.size w w' /\(r=true↔n=J/\∀ i,i<n->P i):=by
 by_cases hl:n=J
 ·subst hl;have H1:Hid _:=hs;have H2:Hid _:=I;have HK:Hid (∀ i,i<n->∀ W,Below w.heap.size w W->yM K #[.slice (S i).pa (S i).pl (S i).pc,.slice (D i).pa (D i).pl (D i).pc] W fun e W' => ∃ r:Bool,e=.returned (.bool r)/\Below W.heap.size W W' /\(r=true↔P i)):=fun i hi=>hK i hi hi;clear hs I hK
  go_enter Tryz.func54,Tryz.ntmps54
  go_wp2
  go_loopg [17] n (fun g s17 wr=>∃ k:Nat,k<=n/\n-k<=g/\s17=.int .i64 k/\Below w.heap.size w wr/\Hid (∀ i,i<k->P i))
  case atStart=>exact⟨0,by omega,by omega,rfl,yk _ _,fun i hi=>absurd hi (yx _)⟩
  case round =>
   obtain⟨k,hk,hg,rfl,E,A⟩:=hrel;by_cases F:k<n
   ·have a6:(k:Int)<(n:Int):=(by omega);obtain⟨b,o,rfl,c0⟩:=H1.out k F;obtain⟨b', o', rfl,O⟩:=H2.out k F;replace c0:=zab c0 E;replace O:=zab O E;have a7:=yd _ _ c0;have a5:=yd _ _ O;have D1:Hid (∀ W,Below wr.heap.size wr W->Calls _ _ _ _ _):=fun W hW=>HK.out k F W (E.trans (hW.mono E.size));have U:Hid (¬ P k->¬ ∀ i,i<n->P i):=fun h h2=>h (h2 k F)
    have KK:Hid (P k->∀ i,i<k+1->P i):=fun h i hi=>by
     by_cases e:i=k
     ·subst e;exact h
     ·exact A.out i (by omega)
    generalize S k=x at *;obtain⟨a9,b1,b0⟩:=x;generalize D k=y at *;obtain⟨b2,b4,b3⟩:=y;dsimp only at c0 O D1
    go_wp2_with fail
    refine(D1.out _ ?nd).mono ?_
    case nd=>exact yk _ _
    rintro e w3 ⟨r,rfl,M,T⟩
    cases r with
    | true =>
     have HR:Hid _:=T.1 rfl;clear T
     go_wp2
     go_roundg (n-(k+1))
     case measure=>omega
     case rel=>exact⟨k+1,by omega,by omega,by go_num,E.trans (M.mono E.size),KK.out HR.out⟩
    | false =>
     have HR:Hid _:=U.out fun e=>by have:=T.2 e;cases this
     clear T
     go_wp2
     go_ret;exact⟨false,rfl,E.trans (M.mono E.size),⟨fun h=>(by cases h),fun h=>absurd h.2 HR.out⟩⟩
   ·have:k=n:=(by omega);subst this
    go_wp2
    go_ret;exact⟨true,rfl,E,⟨fun _=>⟨trivial,A.out⟩,fun _=>rfl⟩⟩
 ·have a8:¬ ((n:Int)=(J:Int)):=by omega
  have Z:Hid (n≠J):=hl;clear hs I hK hl
  go_enter Tryz.func54,Tryz.ntmps54
  go_wp2
  go_ret;exact⟨false,rfl,yk _ _,⟨fun h=>(by cases h),fun h=>absurd h.1 Z.out⟩⟩
theorem zAX(K:Nat)(eg:∀ args w,(callFunc K args).run Tryz.prog w=.ok (.enter K args) w)(a a' : Option Addr)(c c' n J:Nat)(S D:Nat->EQu)(P:Nat->Prop)(w:World)(hn:n<=9223372036854775807)
  (hs:∀ i,i<n->∃ b o,a=some ⟨b,o,none⟩/\w.cell? ⟨b,o+i,none⟩=some (.slice (S i).qa (S i).ql (S i).qc))
  (I:∀ i,i<J->∃ b o,a' = some ⟨b,o,none⟩/\w.cell? ⟨b,o+i,none⟩=some (.slice (D i).qa (D i).ql (D i).qc))
  (hK:∀ i,i<n->i<J->∀ W,Below w.heap.size w W->yM K #[.slice (S i).qa (S i).ql (S i).qc,.slice (D i).qa (D i).ql (D i).qc] W fun e W' => ∃ r:Bool,e=.returned (.bool r)/\Below W.heap.size W W' /\(r=true↔P i)) :
  yM 55 #[.slice a n c,.slice a' J c', .func (.func K) #[] #[]] w fun e w' => ∃ r:Bool,e=.returned (.bool r)/\Below w.heap.size w w' /\(r=true↔n=J/\∀ i,i<n->P i):=by
 by_cases hl:n=J
 ·subst hl;have H1:Hid _:=hs;have H2:Hid _:=I;have HK:Hid (∀ i,i<n->∀ W,Below w.heap.size w W->yM K #[.slice (S i).qa (S i).ql (S i).qc,.slice (D i).qa (D i).ql (D i).qc] W fun e W' => ∃ r:Bool,e=.returned (.bool r)/\Below W.heap.size W W' /\(r=true↔P i)):=fun i hi=>hK i hi hi;clear hs I hK
  go_enter Tryz.func55,Tryz.ntmps55
  go_wp2
  go_loopg [17] n (fun g s17 wr=>∃ k:Nat,k<=n/\n-k<=g/\s17=.int .i64 k/\Below w.heap.size w wr/\Hid (∀ i,i<k->P i))
  case atStart=>exact⟨0,by omega,by omega,rfl,yk _ _,fun i hi=>absurd hi (yx _)⟩
  case round =>
   obtain⟨k,hk,hg,rfl,E,A⟩:=hrel;by_cases F:k<n
   ·have a6:(k:Int)<(n:Int):=(by omega);obtain⟨b,o,rfl,c0⟩:=H1.out k F;obtain⟨b', o', rfl,O⟩:=H2.out k F;replace c0:=zab c0 E;replace O:=zab O E;have a7:=yd _ _ c0;have a5:=yd _ _ O;have D1:Hid (∀ W,Below wr.heap.size wr W->Calls _ _ _ _ _):=fun W hW=>HK.out k F W (E.trans (hW.mono E.size));have U:Hid (¬ P k->¬ ∀ i,i<n->P i):=fun h h2=>h (h2 k F)
    have KK:Hid (P k->∀ i,i<k+1->P i):=fun h i hi=>by
     by_cases e:i=k
     ·subst e;exact h
     ·exact A.out i (by omega)
    generalize S k=x at *;obtain⟨a9,b1,b0⟩:=x;generalize D k=y at *;obtain⟨b2,b4,b3⟩:=y;dsimp only at c0 O D1
    go_wp2_with fail
    refine(D1.out _ ?nd).mono ?_
    case nd=>exact yk _ _
    rintro e w3 ⟨r,rfl,M,T⟩
    cases r with
    | true =>
     have HR:Hid _:=T.1 rfl;clear T
     go_wp2
     go_roundg (n-(k+1))
     case measure=>omega
     case rel=>exact⟨k+1,by omega,by omega,by go_num,E.trans (M.mono E.size),KK.out HR.out⟩
    | false =>
     have HR:Hid _:=U.out fun e=>by have:=T.2 e;cases this
     clear T
     go_wp2
     go_ret;exact⟨false,rfl,E.trans (M.mono E.size),⟨fun h=>(by cases h),fun h=>absurd h.2 HR.out⟩⟩
   ·have:k=n:=(by omega);subst this
    go_wp2
    go_ret;exact⟨true,rfl,E,⟨fun _=>⟨trivial,A.out⟩,fun _=>rfl⟩⟩
 ·have a8:¬ ((n:Int)=(J:Int)):=by omega
  have Z:Hid (n≠J):=hl;clear hs I hK hl
  go_enter Tryz.func55,Tryz.ntmps55
  go_wp2
  go_ret;exact⟨false,rfl,yk _ _,⟨fun h=>(by cases h),fun h=>absurd h.1 Z.out⟩⟩
theorem zAH(V W:Wl):V=W↔V.fs=W.fs/\V.rs=W.rs/\V.ps=W.ps/\V.qs=W.qs/\V.pt=W.pt:=by
 cases V;cases W;simp
theorem zlV{α:Type}{z:α}(A B:List α):(A.length=B.length/\∀ i,i<A.length->A.getD i z=B.getD i z)↔A=B:=⟨fun h=>ziB h.1 h.2,fun h=>by subst h;exact⟨rfl,fun _ _=>rfl⟩⟩
theorem zvd:zli:=fun A B U W w hB T hW=>by
 obtain⟨a0,a1,a2,a3,a4,c0,c1,c2,c3,c4⟩:=A;obtain⟨b0,b1,b2,b3,b4,d0,d1,d2,d3,d4⟩:=B;obtain⟨c6,⟨c7,a5⟩,⟨c8,a6⟩,⟨c9,Z⟩,d5,a7⟩:=hB;have O:Hid _:=zAH U W;obtain⟨fs,rs,ps,qs,pt⟩:=U;obtain⟨b9,D,J,M,d6⟩:=W;dsimp only[wlV] at c6 c7 a5 c8 a6 c9 Z d5 a7 O |-;have D0:Hid (∀ V,Below w.heap.size w V->Calls _ _ _ _ _):=fun V I=>zmD a0 b0 c0 d0 fs b9 V c6 (T.fs.below I) (hW.fs.below I)
 have D1:Hid (∀ V,Below w.heap.size w V->yM 53 #[.slice a1 rs.length c1,.slice b1 D.length d1,.func (.func 17) #[] #[]] V fun e w' => ∃ r:Bool,e=.returned (.bool r)/\Below V.heap.size V w' /\(r=true↔rs=D)):=fun V I=>by
  obtain⟨f,hf⟩:=ziN (T.rs.below I);obtain⟨g,hg⟩:=ziN (hW.rs.below I);rw[<- zlV (z:=zbE) rs D];exact zAY 17 (yK Tryz.func17 (by kernel_rfl) rfl) a1 b1 c1 d1 rs.length D.length (fun i=>⟨(f i).a0,(rl rs i).s.length,(f i).c0,(f i).a1,(rl rs i).hs.length,(f i).c1,(f i).a2,(rl rs i).i.length,(f i).c2,(f i).a3,(rl rs i).t.length,(f i).c3⟩) (fun i=>⟨(g i).a0,(rl D i).s.length,(g i).c0,(g i).a1,(rl D i).hs.length,(g i).c1,(g i).a2,(rl D i).i.length,(g i).c2,(g i).a3,(rl D i).t.length,(g i).c3⟩) (fun i=>rl rs i=rl D i) V c7 (fun i hi=>(hf i hi).1) (fun i hi=>(hg i hi).1) (fun i hi a8 U T=>zrD (f i) (g i) (rl rs i) (rl D i) U (a5 i hi) ((hf i hi).2.below T) ((hg i a8).2.below T))
 have D2:Hid (∀ V,Below w.heap.size w V->yM 54 #[.slice a2 ps.length c2,.slice b2 J.length d2,.func (.func 18) #[] #[]] V fun e w' => ∃ r:Bool,e=.returned (.bool r)/\Below V.heap.size V w' /\(r=true↔ps=J)):=fun V I=>by
  obtain⟨f,hf⟩:=ziL (T.ps.below I);obtain⟨g,hg⟩:=ziL (hW.ps.below I);rw[<- zlV (z:=[]) ps J];exact zAW 18 (yK Tryz.func18 (by kernel_rfl) rfl) a2 b2 c2 d2 ps.length J.length (fun i=>⟨(f i).1,(pg ps i).length,(f i).2⟩) (fun i=>⟨(g i).1,(pg J i).length,(g i).2⟩) (fun i=>pg ps i=pg J i) V c8 (fun i hi=>(hf i hi).1) (fun i hi=>(hg i hi).1) (fun i hi a8 U T=>zmC _ _ _ _ (pg ps i) (pg J i) U (a6 i hi) ((hf i hi).2.below T) ((hg i a8).2.below T))
 have D3:Hid (∀ V,Below w.heap.size w V->yM 55 #[.slice a3 qs.length c3,.slice b3 M.length d3,.func (.func 56) #[] #[]] V fun e w' => ∃ r:Bool,e=.returned (.bool r)/\Below V.heap.size V w' /\(r=true↔qs=M)):=fun V I=>by
  obtain⟨f,hf⟩:=ziM (T.qs.below I);obtain⟨g,hg⟩:=ziM (hW.qs.below I);rw[<- zlV (z:=[]) qs M];exact zAX 56 (yK Tryz.func56 (by kernel_rfl) rfl) a3 b3 c3 d3 qs.length M.length (fun i=>⟨(f i).1,(qu qs i).length,(f i).2⟩) (fun i=>⟨(g i).1,(qu M i).length,(g i).2⟩) (fun i=>qu qs i=qu M i) V c9 (fun i hi=>(hf i hi).1) (fun i hi=>(hg i hi).1) (fun i hi a8 U T=>zru _ _ _ _ (qu qs i) (qu M i) U (Z i hi).1 (Z i hi).2 ((hf i hi).2.below T) ((hg i a8).2.below T))
 have D4:Hid (∀ V,Below w.heap.size w V->Calls _ _ _ _ _):=fun V I=>zup a4 b4 c4 d4 pt d6 V d5 a7 (T.pt.below I) (hW.pt.below I);clear T hW a5 a6 Z a7;generalize fs.length=nf at *;generalize rs.length=nr at *;generalize ps.length=np at *;generalize qs.length=nq at *;generalize pt.length=nt at *;generalize b9.length=mf at *;generalize D.length=mr at *;generalize J.length=mp at *;generalize M.length=mq at *;generalize d6.length=mt at *
 go_enter Tryz.func21,Tryz.ntmps21
 go_wp2_with fail
 obtain⟨V0,I⟩:∃ V,(w.alloc (.cells #[.slice a0 nf c0,.slice a1 nr c1,.slice a2 np c2,.slice a3 nq c3,.slice a4 nt c4] 28)).alloc (.cells #[.slice b0 mf d0,.slice b1 mr d1,.slice b2 mp d2,.slice b3 mq d3,.slice b4 mt d4] 28)=V:=⟨_,rfl⟩;have X0:Hid _:=zaA (zfF w 28 (.slice a0 nf c0) (.slice a1 nr c1) (.slice a2 np c2) (.slice a3 nq c3) (.slice a4 nt c4)) (zaa _ (.cells #[.slice b0 mf d0,.slice b1 mr d1,.slice b2 mp d2,.slice b3 mq d3,.slice b4 mt d4] 28));have Y0:Hid _:=zfF (w.alloc (.cells #[.slice a0 nf c0,.slice a1 nr c1,.slice a2 np c2,.slice a3 nq c3,.slice a4 nt c4] 28)) 28 (.slice b0 mf d0) (.slice b1 mr d1) (.slice b2 mp d2) (.slice b3 mq d3) (.slice b4 mt d4);rw[yr] at Y0;have b8:Hid (Below w.heap.size w V0):=by rw[<- I];exact zaf _ _ _
 rw[I] at X0 Y0 |-;clear I;obtain⟨l0,l1,l2,l3,l4,ll⟩:=zau X0.out;obtain⟨m0,m1,m2,m3,m4,mm⟩:=zau Y0.out;refine ye (D0.out _ b8.out) ?_;rintro e V1 ⟨r,rfl,E,F⟩;have a9:Hid (Below w.heap.size w V1):=b8.out.trans (E.mono b8.out.size);have X1:Hid _:=zaA X0.out E;have Y1:Hid _:=zaA Y0.out E;clear E l0 l1 l2 l3 l4 ll m0 m1 m2 m3 m4 mm;obtain⟨l0,l1,l2,l3,l4,ll⟩:=zau X1.out;obtain⟨m0,m1,m2,m3,m4,mm⟩:=zau Y1.out
 cases r with
 | false =>
  have HR:Hid (¬ _):=fun h=>Bool.noConfusion (F.2 h);clear F
  go_wp2
  go_ret;exact⟨false,rfl,a9.out,⟨fun h=>(by cases h),fun h=>absurd (O.out.1 h).1 HR.out⟩⟩
 | true =>
 have H0:Hid _:=F.1 rfl;clear F
 go_wp2_with fail
 refine ye (D1.out _ a9.out) ?_;rintro e V2 ⟨r,rfl,E,F⟩;have b5:Hid (Below w.heap.size w V2):=a9.out.trans (E.mono a9.out.size);have X2:Hid _:=zaA X1.out E;have Y2:Hid _:=zaA Y1.out E;clear E l0 l1 l2 l3 l4 ll m0 m1 m2 m3 m4 mm;obtain⟨l0,l1,l2,l3,l4,ll⟩:=zau X2.out;obtain⟨m0,m1,m2,m3,m4,mm⟩:=zau Y2.out
 cases r with
 | false =>
  have HR:Hid (¬ _):=fun h=>Bool.noConfusion (F.2 h);clear F
  go_wp2
  go_ret;exact⟨false,rfl,b5.out,⟨fun h=>(by cases h),fun h=>absurd (O.out.1 h).2.1 HR.out⟩⟩
 | true =>
 have H1:Hid _:=F.1 rfl;clear F
 go_wp2_with fail
 refine ye (D2.out _ b5.out) ?_;rintro e V3 ⟨r,rfl,E,F⟩;have b6:Hid (Below w.heap.size w V3):=b5.out.trans (E.mono b5.out.size);have X3:Hid _:=zaA X2.out E;have Y3:Hid _:=zaA Y2.out E;clear E l0 l1 l2 l3 l4 ll m0 m1 m2 m3 m4 mm;obtain⟨l0,l1,l2,l3,l4,ll⟩:=zau X3.out;obtain⟨m0,m1,m2,m3,m4,mm⟩:=zau Y3.out
 cases r with
 | false =>
  have HR:Hid (¬ _):=fun h=>Bool.noConfusion (F.2 h);clear F
  go_wp2
  go_ret;exact⟨false,rfl,b6.out,⟨fun h=>(by cases h),fun h=>absurd (O.out.1 h).2.2.1 HR.out⟩⟩
 | true =>
 have H2:Hid _:=F.1 rfl;clear F
 go_wp2_with fail
 refine ye (D3.out _ b6.out) ?_;rintro e V4 ⟨r,rfl,E,F⟩;have b7:Hid (Below w.heap.size w V4):=b6.out.trans (E.mono b6.out.size);have X4:Hid _:=zaA X3.out E;have Y4:Hid _:=zaA Y3.out E;clear E l0 l1 l2 l3 l4 ll m0 m1 m2 m3 m4 mm;obtain⟨l0,l1,l2,l3,l4,ll⟩:=zau X4.out;obtain⟨m0,m1,m2,m3,m4,mm⟩:=zau Y4.out
 cases r with
 | false =>
  have HR:Hid (¬ _):=fun h=>Bool.noConfusion (F.2 h);clear F
  go_wp2
  go_ret;exact⟨false,rfl,b7.out,⟨fun h=>(by cases h),fun h=>absurd (O.out.1 h).2.2.2.1 HR.out⟩⟩
 | true =>
 have H3:Hid _:=F.1 rfl;clear F
 go_wp2_with fail
 refine ye (D4.out _ b7.out) ?_;rintro e V5 ⟨r,rfl,E,F⟩;have d7:Hid (Below w.heap.size w V5):=b7.out.trans (E.mono b7.out.size);have HR:Hid _:=F;clear E F
 go_wp2
 go_ret;exact⟨r,rfl,d7.out,⟨fun h=>O.out.2 ⟨H0.out,H1.out,H2.out,H3.out,HR.out.1 h⟩,fun h=>HR.out.2 (O.out.1 h).2.2.2.2⟩⟩
end Go.Proofs.YtcbcpomacdngmaaGreat
