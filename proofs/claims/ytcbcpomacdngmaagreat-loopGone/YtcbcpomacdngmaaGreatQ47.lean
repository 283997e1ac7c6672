/-
  x
-/
import Derived.Test.YtcbcpomacdngmaaGreatQ46
namespace Go.Proofs.YtcbcpomacdngmaaGreat
set_option maxRecDepth 100000
set_option maxHeartbeats 4000000
set_option linter.unusedVariables false
open Go.RowKit Go.ChangeShapes Go.WideShapes
theorem zwY(w:World){D E:Nat}(I J:Nat)(v1 v2:Value)(h:D≠E):(w.setCell ⟨D,I,none⟩ v1).setCell ⟨E,J,none⟩ v2=(w.setCell ⟨E,J,none⟩ v2).setCell ⟨D,I,none⟩ v1:=by
 unfold World.setCell
 congr 1
 apply Array.ext
 ·simp
 ·intro i h1 O;simp only[Array.getElem_modify];by_cases F:D=i
  ·have M:¬ E=i:=fun e=>h (F.trans e.symm);simp[F,M]
  ·simp[F]
def zzv(E:W0)(d me:Nat)(W:Wl)(st:Bool)(s:SD)(e:Ending)(w' : World):Prop:=∃ ga gc D,e=.returned (.agg #[.slice ga (if st then [] else ((que W me).getD 0 ⟨0,[]⟩).g).length gc])/\SW E d me (if st then W else { W with qs:=W.qs.set me ((que W me).drop 1) }) D w' /\ D.g1=s.g1/\St (SX E.heap.size d D) (fun V=>zaG V ga (if st then [] else ((que W me).getD 0 ⟨0,[]⟩).g)) w'
theorem zxe(me:Nat)(W:Wl)(st:Bool)(M:W0)(d:Nat)(s:SD)(V:World)(I:SW M d me W s V)(hq:s.q me=none)(hl:st=false->(que W me).length≠0):Calls Tryz.prog 40 #[.pointer (some ⟨d,0,none⟩),.agg #[.int .i64 (me:Int),.bool st]] V (zzv M d me W st s):=by
 have Z:Hid (SW M d me W s V):=I;have b0:Hid _:=I.lt;obtain⟨l0,l1,l2,l3,l4,lf,ll⟩:=zak I.box;have n8:W.fs.length<=8:=I.rt.fs.few;have a8:me<W.fs.length:=I.sf;have r3:V.cell? ⟨s.g3,me,none⟩=some (.slice (s.Q me).1 (que W me).length (s.Q me).2):=(I.r3.cell a8);clear l0 l1 l2 l4;cases st
 ·obtain⟨b,o,hQ,a6,hc,HS,HT⟩:=I.take hq (hl rfl);rw[hQ] at r3;have U:Hid _:=HT;have F:Hid _:=HS;have b6:=hl rfl;clear HT HS hl hq I;have b1:b<V.heap.size:=yd _ _ hc;have b2:s.g3<V.heap.size:=yd _ _ r3;have HN:Hid _:=n8;generalize W.fs.length=n at *;generalize s.G me 0=g0 at *;obtain⟨G,hG⟩:∃ G,((que W me).getD 0 ⟨0,[]⟩).g=G:=⟨_,rfl⟩;have HG:Hid _:=hG;rw[hG] at hc F;clear hG;obtain⟨ga,gc⟩:=g0;dsimp only at hc F
  go_enter Tryz.func40,Tryz.ntmps40
  go_upto_region 1 with fail
  obtain⟨E,D⟩:∃ E,(V.alloc (.cells #[.int .i64 me,.bool false] 40)).alloc (.cells #[.slice none 0 0] 47)=E:=⟨_,rfl⟩;have O:Hid (Below V.heap.size V E):=by rw[<- D];exact(zaa _ _).trans ((zaa _ _).mono (by simp))
  have y0:E.cell? ⟨V.heap.size,0,none⟩=some (.int .i64 me):=by rw[<- D];exact zay _ _ _ 0 _ rfl
  have y1:E.cell? ⟨V.heap.size,1,none⟩=some (.bool false):=by rw[<- D];exact zay _ _ _ 1 _ rfl
  have z0:E.cell? ⟨V.heap.size+1,0,none⟩=some (.slice none 0 0):=by rw[<- D];exact zaz _ _ _ 0 _ rfl
  have zf:E.frozen? ⟨V.heap.size+1,0,none⟩=false:=by
   rw[<- D];have h:=zaX (o:=0) (heap_alloc_new (V.alloc (.cells #[.int .i64 me,.bool false] 40)) (.cells #[.slice none 0 0] 47));rw[show (V.alloc (.cells #[.int .i64 me,.bool false] 40)).heap.size=V.heap.size+1 from by simp] at h;exact h
  have T:Hid (∀ J,(J=some ⟨b,o+2,none⟩\/((que W me).length=1/\∀ ad,J=some ad->∃ b o,ad=⟨b,o,none⟩))->zzv M d me W false s (.returned (.agg #[.slice ga G.length gc])) ((E.setCell ⟨s.g3,me,none⟩ (.slice J ((que W me).length-1) ((que W me).length-1))).setCell ⟨V.heap.size+1,0,none⟩ (.slice ga G.length gc)).drew.drew):=fun J a5=>by
   have HB:Below V.heap.size V (E.setCell ⟨V.heap.size+1,0,none⟩ (.slice ga G.length gc)):=O.out.setCell (by show V.heap.size<=V.heap.size+1;omega) _;obtain⟨s', h1,h2,_,h4⟩:=U.out _ J (Z.out.below HB) a5;rw[zwY E me 0 _ _ (show s.g3≠V.heap.size+1 by omega)];refine⟨ga,gc,s', ?_,h1.below (yk _ _).drew.drew,h2,?_⟩
   ·rw[<- HG.out];rfl
   ·have h5:=(St.off (show St (SX M.heap.size d s) (fun V=>zaG V ga G) V from F.out) (((zaq.of_below HB).trans (zaq.set (X:=SX M.heap.size d s) (o:=me) _ (.slice J ((que W me).length-1) ((que W me).length-1)) (.inr (.inr (.inr (.inr (.inl rfl))))))).trans (zaq.of_below (yk _ _).drew.drew))).less h4;show St _ (fun V=>zaG V ga ((que W me).getD 0 ⟨0,[]⟩).g) _;rw[HG.out];exact h5
  rw[D];clear D;replace l3:=zab l3 O.out;replace r3:=zab r3 O.out;replace hc:=zab hc O.out;have b3:(me:Int)<(n:Int):=by omega
  have f3:E.frozen? ⟨s.g3,me,none⟩=false:=(Z.out.below O.out).r3.frozen _
  go_wp2_with fail
  have b7:¬ s.g3=V.heap.size:=by omega
  have b8:¬ s.g3=V.heap.size+1:=by omega
  have b9:¬ V.heap.size+1=s.g3:=by omega
  have c6:¬ V.heap.size=s.g3:=by omega
  have a9:¬ b=s.g3:=fun e=>a6 e.symm;generalize (que W me).length=m at *;by_cases a7:m=1
  ·subst a7
   go_region
   go_wp2_with fail
   go_region
   go_wp2
   exact yv (v:=.agg #[.slice ga G.length gc]) (by simp[results,Tryz.results40,go_sem,z0]) rfl (T.out (some ⟨b,o,none⟩) (.inr ⟨by trivial,fun ad h=>by cases h;exact⟨_,_,rfl⟩⟩))
  ·have b4:¬ ((m:Int)=1):=by omega
   have b5:(1:Int)<=(m:Int):=by omega
   go_region
   go_wp2_with fail
   go_region
   go_wp2
   exact yv (v:=.agg #[.slice ga G.length gc]) (by simp[results,Tryz.results40,go_sem,z0]) rfl (T.out (some ⟨b,o+2,none⟩) (.inl rfl))
 ·clear hl hq I r3 l3
  go_enter Tryz.func40,Tryz.ntmps40
  go_wp2
  refine yv (v:=.agg #[.slice none 0 0]) (by simp[results,Tryz.results40,go_sem]) rfl ⟨none,0,s,rfl,Z.out.below ?_,rfl,fun _ _ i hi=>absurd hi (yw i)⟩;exact(zaa _ _).trans ((zaa _ _).mono (by simp))
theorem SW.moved{J:W0}{d me:Nat}{W:Wl}{s:SD}{V:World}(I:SW J d me W s V){D g c0 r:Nat}{a0 a1:Option Addr}{o:Int}(Z:D<W.fs.length)(O:goE W.fs D o=0)(hf:St (SX J.heap.size d s) (fun V=>zaS V (some ⟨g,0,none⟩) (goF W.fs D o)) V)(hn:St (SX J.heap.size d s) (fun V=>zah V a0 (List.replicate r zbc)/\zas V a1 (List.replicate 16 (0,0))) V)(hr:(rlm W D).s.length=r) :
  ∃ s', SW J d me { fs:=goF W.fs D o,rs:=W.rs.set D (zdj r),ps:=W.ps.set D [],qs:=W.qs.set D [],pt:=W.pt } s' (((((((V.setCell ⟨d,0,none⟩ (.slice (some ⟨g,0,none⟩) W.fs.length W.fs.length)).setCell ⟨s.g1,D*4,none⟩ (.slice a0 r c0)).setCell ⟨s.g1,D*4+1,none⟩ (.slice a1 16 16)).setCell ⟨s.g1,D*4+2,none⟩ (.slice none 0 0)).setCell ⟨s.g1,D*4+3,none⟩ (.slice none 0 0)).setCell ⟨s.g2,D,none⟩ (.slice none 0 0)).setCell ⟨s.g3,D,none⟩ (.slice none 0 0)):=by
 have hl:=zha W.fs (D:Int) o;have n8:=I.rt.fs.few;have hs:r<=24:=by rw[<- hr];exact(zaB (I.rt.rs D Z)).1.small
 obtain⟨n1,M⟩:=zjw r hs;have F:=I.frames (a:=some ⟨g,0,none⟩) (c:=W.fs.length) (L:=goF W.fs D o) hf hl (zan.frames I.rt (zpD O) hl) ⟨(fun e=>by cases e),by rw[hl];exact yj _,by omega⟩;have ho:zaq (SX J.heap.size d s) V (V.setCell ⟨d,0,none⟩ (.slice (some ⟨g,0,none⟩) W.fs.length W.fs.length)):=zaq.set V _ (.inr (.inl rfl));have E:D<(goF W.fs D o).length:=by rw[hl];exact Z
 have R:=F.realm (k:=D) (A:=⟨a0,a1,none,none,c0,16,0,0⟩) (Q:=zdj r) E n1 (by rw[M];exact fun T h=>⟨(hn.off ho T h).1,(hn.off ho T h).2,fun _ h=>absurd h (yw _)⟩) (by rw[M];exact fun _ _ _ h=>absurd h (yw _)) (fun _=>⟨by rw[M];rfl,fun U h=>by cases h⟩) rfl;have P:=R.noprog (k:=D) E;have Q:=P.queue (k:=D) (a:=none) (c:=0) (q:=[]) (G:=fun _=>(none,0)) E (fun _ _ U h=>by cases h) ⟨fun _=>rfl,fun U h=>by cases h⟩ rfl (fun j hj=>absurd hj (yw _)) (zan.queue (q:=[]) P.rt E rfl);have e:(zdj r).s.length=r/\(zdj r).hs.length=16/\(zdj r).i.length=0/\(zdj r).t.length=0:=by rw[M];simp
 rw[e.1,e.2.1,e.2.2.1,e.2.2.2] at Q;exact⟨_,Q⟩
theorem zpB(w:World)(a:Addr)(v:Value):w.drew.setCell a v=(w.setCell a v).drew:=rfl
theorem zwX(w:World){F D:Nat}{T I J M O:Nat}{v u0 u1 u2 u3:Value}{j:Nat}(h1:j≠F)(E:j≠D):(((((w.setCell ⟨F,T,none⟩ v).setCell ⟨D,I,none⟩ u0).setCell ⟨D,J,none⟩ u1).setCell ⟨D,M,none⟩ u2).setCell ⟨D,O,none⟩ u3).heap[j]?=w.heap[j]?:=by
 rw[ys _ _ _ _ E,ys _ _ _ _ E,ys _ _ _ _ E,ys _ _ _ _ E,ys _ _ _ _ h1]
theorem ztW(me:Nat)(W:Wl)(x:Ac)(hm:zdK W.fs me x.n 5=0):zhv 117 #[] (fun _=>True) me W x (zfh [goE W.fs x.n x.a] W { fs:=goF W.fs x.n x.a,rs:=W.rs.set x.n.toNat (zdj (rlm W x.n.toNat).s.length),ps:=W.ps.set x.n.toNat [],qs:=W.qs.set x.n.toNat [],pt:=W.pt } 0):=fun w0 d s V I _=>by
 have QI:=zeS [goE W.fs x.n x.a] W { fs:=goF W.fs x.n x.a,rs:=W.rs.set x.n.toNat (zdj (rlm W x.n.toNat).s.length),ps:=W.ps.set x.n.toNat [],qs:=W.qs.set x.n.toNat [],pt:=W.pt } 0;rw[zkN] at QI;obtain⟨q,d8⟩:∃ q,zfh [goE W.fs x.n x.a] W { fs:=goF W.fs x.n x.a,rs:=W.rs.set x.n.toNat (zdj (rlm W x.n.toNat).s.length),ps:=W.ps.set x.n.toNat [],qs:=W.qs.set x.n.toNat [],pt:=W.pt } 0=q:=⟨_,rfl⟩;rw[d8] at QI |-;clear d8;obtain⟨D,d7,b0,_⟩:=zdt (zca hm).2.2.1;obtain⟨xk,Z,xb,xc,xn⟩:=x;have II:Hid (SW w0 d me W s V):=I;have e0:=I.lt;have b7:Hid _:=e0;obtain⟨l0,l1,l2,l3,l4,lf,ll⟩:=zak I.box;have j6:d<V.heap.size:=ll;have n8:W.fs.length<=8:=I.rt.fs.few;have h6:me<W.fs.length:=I.sf;clear e0;dsimp only at d7 QI |-;subst d7;rw[yi] at QI;clear hm;obtain⟨k0,k1,k2,k3,kf,kl⟩:=I.rcells b0;have j7:s.g2<V.heap.size:=I.r2.lt;have j8:s.g3<V.heap.size:=I.r3.lt;have O:=I.ap;have e8:(rlm W D).s.length<=24:=(zaB (I.rt.rs D b0)).1.small;have D0:Hid (goE W.fs D Z≠0->∀ U,Below V.heap.size V U->Calls _ _ _ _ _):=fun hE U hV=>zzP s.a0 s.c0 W.fs D Z U (by omega) ((I.dp.fr.at).below hV) hE;have D1:Hid (goE W.fs D Z=0->∀ U,Below V.heap.size V U->Calls _ _ _ _ _):=fun hE U hV=>go_ok s.a0 s.c0 W.fs D Z U ((I.dp.fr.at).below hV) hE;show Calls Tryz.prog _ #[.pointer (some ⟨d,0,none⟩),.int .i64 (me:Int),.agg #[.int .i64 xk,.int .i64 Z,.int .i64 xb,.int .i64 xc,.int .i64 (D:Int)]] V _;obtain⟨n,hn⟩:∃ n,W.fs.length=n:=⟨_,rfl⟩;have HN:Hid (W.fs.length=n):=hn;obtain⟨nt,b3⟩:∃ n,W.pt.length=n:=⟨_,rfl⟩;have g0:Hid (W.pt.length=nt):=b3
 rw[b3] at l4;have j9:D<n:=by omega
 rw[hn] at l0 l1 l2 l3 n8 h6 D0 D1;obtain⟨r,hr⟩:∃ r,(rlm W D).s.length=r:=⟨_,rfl⟩;have g4:Hid ((rlm W D).s.length=r):=hr;rw[hr] at k0 QI e8;obtain⟨E,hE⟩:∃ E,goE W.fs D Z=E:=⟨_,rfl⟩;have HE:Hid (goE W.fs D Z=E):=hE;rw[hE] at D0 D1 QI;have a9:Hid _:=b0;have i9:Hid _:=O;have d1:¬ d=s.g1:=O.d1;have d2:¬ d=s.g2:=O.d2;have d3:¬ d=s.g3:=O.d3;have g5:¬ s.g1=s.g2:=O.g12;have g6:¬ s.g1=s.g3:=O.g13;have g7:¬ s.g2=s.g3:=O.g23;clear hn b3 I hr hE b0 O k1 k2 k3;have i0:(D:Int)<(n:Int):=by omega
 have HI:Hid _:=QI;clear QI
 go_enter Tryz.func117,Tryz.ntmps117
 go_upto_region 1 with fail
 obtain⟨J,M⟩:∃ J,V.alloc (.cells #[.int .i64 xk,.int .i64 Z,.int .i64 xb,.int .i64 xc,.int .i64 (D:Int)] 36)=J:=⟨_,rfl⟩;have BV:Hid (Below V.heap.size V J):=by rw[<- M];exact zaa _ _
 have y0:J.cell? ⟨V.heap.size,0,none⟩=some (.int .i64 xk):=by rw[<- M];exact zac _ _ _ 0 rfl
 have y1:J.cell? ⟨V.heap.size,1,none⟩=some (.int .i64 Z):=by rw[<- M];exact zac _ _ _ 1 rfl
 have y2:J.cell? ⟨V.heap.size,2,none⟩=some (.int .i64 xb):=by rw[<- M];exact zac _ _ _ 2 rfl
 have y3:J.cell? ⟨V.heap.size,3,none⟩=some (.int .i64 xc):=by rw[<- M];exact zac _ _ _ 3 rfl
 have y4:J.cell? ⟨V.heap.size,4,none⟩=some (.int .i64 (D:Int)):=by rw[<- M];exact zac _ _ _ 4 rfl
 have sV:V.heap.size<J.heap.size:=yd _ _ y0;rw[M];clear M;replace l0:=zab l0 BV.out;replace l1:=zab l1 BV.out;replace l2:=zab l2 BV.out;replace l3:=zab l3 BV.out;replace l4:=zab l4 BV.out;replace k0:=zab k0 BV.out;have k4:d<J.heap.size:=by omega
 have k5:s.g1<J.heap.size:=by omega
 by_cases hE:E=0
 ·subst hE;have hN:q.e=0/\q.w={ fs:=goF W.fs D Z,rs:=W.rs.set D (zdj r),ps:=W.ps.set D [],qs:=W.qs.set D [],pt:=W.pt }/\q.o=0:=⟨HI.out.1,HI.out.2.1 rfl⟩;have T:Hid _:=hN;have DD:Hid (∀ U,Below V.heap.size V U->Calls _ _ _ _ _):=D1.out rfl;have DN:Hid (∀ U,Calls _ _ _ _ _):=fun U=>ztZ r U e8;clear hN HI D0 D1
  go_region_held3 (fun F=>F.cell? ⟨d,0,none⟩=some (.slice s.a0 n s.c0)/\F.cell? ⟨V.heap.size,4,none⟩=some (.int .i64 (D:Int))/\F.cell? ⟨V.heap.size,1,none⟩=some (.int .i64 Z)) (go_keep) (first|(go_at_call 141;refine ye (DD.out J.drew BV.out.drew) ?_;rintro e w3 ⟨g,rfl,a7,b1,d6⟩;have B3:Hid (Below J.heap.size J w3):=(yk _ _).drew.trans a7;have F3:Hid (zaS w3 (some ⟨g,0,none⟩) (goF W.fs D Z)):=d6;have c8:=zab l0 B3.out;have d4:=zab y4 B3.out;have c9:=zab y1 B3.out;clear a7 d6))
  have s3:J.heap.size<=w3.heap.size:=B3.out.size;have gg:J.heap.size<=g:=by simpa using b1
  have m1:=zab l1 B3.out;have my:=zab y4 B3.out;have mr:=zab k0 B3.out;clear l0 l1 l2 l3 l4 k0 c8 d4 c9 b1 DD y0 y1 y2 y3;have n0:¬ w3.heap.size=d:=by omega
  have o0:¬ d=w3.heap.size:=by omega
  have n1:¬ w3.heap.size=s.g1:=by omega
  have o1:¬ s.g1=w3.heap.size:=by omega
  have n2:¬ w3.heap.size=V.heap.size:=by omega
  have o2:¬ V.heap.size=w3.heap.size:=by omega
  have i1:d<w3.heap.size:=by omega
  have i2:s.g1<w3.heap.size:=by omega
  go_upto_region 4 with fail
  go_cut [9,10] (fun s9 s10 wx=>∃ (b:Nat) (a0 a1:Option Addr) (c0:Nat),s10=.pointer (some ⟨b,0,none⟩)/\s9=.int .i64 0/\Hid (Below w3.heap.size w3 wx)/\Hid (wx.heap[b]?=some (.cells #[.slice a0 r c0,.slice a1 16 16,.slice none 0 0,.slice none 0 0] 50 (0,0)))/\w3.heap.size<=b/\Hid (St (fun b=>b<w3.heap.size) (fun V=>zah V a0 (List.replicate r zbc)/\zas V a1 (List.replicate 16 (0,0))) wx))
  case first =>
   go_region_held3 (fun F=>F.cell? ⟨d,1,none⟩=some (.slice (some ⟨s.g1,0,none⟩) n n)/\F.cell? ⟨V.heap.size,4,none⟩=some (.int .i64 (D:Int))/\F.cell? ⟨s.g1,D*4,none⟩=some (.slice (s.R D).a0 r (s.R D).c0)) (go_keep) (first|(go_at_call 28;refine ye (DN.out w3.drew) ?_;rintro e w5 ⟨a0,a1,c0,rfl,a5,a8⟩;have B5:Hid (Below w3.heap.size w3 w5):=(yk _ _).drew.trans a5;have C5:Hid (St (fun b=>b<w3.heap.size) (fun V=>zah V a0 (List.replicate r zbc)/\zas V a1 (List.replicate 16 (0,0))) w5):=a8;have g8:=zab m1 B5.out;have h4:=zab my B5.out;have g9:=zab mr B5.out;clear a5 a8)|(go_at_call 28;refine ye (DN.out (w3.alloc (.cells #[.slice none 0 0,.slice none 0 0,.slice none 0 0,.slice none 0 0] 50)).drew) ?_;rintro e w5 ⟨a0,a1,c0,rfl,a5,a8⟩;have B5:Hid (Below w3.heap.size w3 w5):=(zaa w3 _).drew.trans (a5.mono (by simp));have C5:Hid (St (fun b=>b<w3.heap.size+1) (fun V=>zah V a0 (List.replicate r zbc)/\zas V a1 (List.replicate 16 (0,0))) w5):=(by have h:=a8;simp only[yr,World.size_drew] at h;exact h);have g8:=zab m1 B5.out;have h4:=zab my B5.out;have g9:=zab mr B5.out;have X5:Hid (w5.heap[w3.heap.size]?=some (.cells #[.slice none 0 0,.slice none 0 0,.slice none 0 0,.slice none 0 0] 50 (0,0))):=zaD (W:=(w3.alloc (.cells #[.slice none 0 0,.slice none 0 0,.slice none 0 0,.slice none 0 0] 50)).drew) (heap_alloc_new w3 _) a5;obtain⟨x0,x1,x2,x3,xf,xl⟩:=zai X5.out;clear a5 a8))
   ·go_wp2_with fail
    go_meet
    case rel=>exact⟨_,a0,a1,c0,rfl,rfl,B5.out.trans ((zaa _ _).mono B5.out.size),zcc _ _ _ _ _ _,B5.out.size,C5.out.off (zaq.of_below (zaa _ _))⟩
   ·go_wp2_with fail
    go_meet
    case rel=>exact⟨_,a0,a1,c0,rfl,rfl,(((B5.out.setCell (yj _) _).setCell (yj _) _).setCell (yj _) _).setCell (yj _) _,zcL X5.out,yj _,(C5.out.off (zqc (Nat.lt_succ_self _) _ _ _ _ _)).less (fun b hb=>Nat.lt_succ_of_lt hb)⟩
  case rest =>
   obtain⟨b,a0,a1,c0,rfl,rfl,HB,HX,j5,HC⟩:=hcut;have b2:Hid (Below V.heap.size V w3):=BV.out.trans (B3.out.mono BV.out.size);have BW:Hid (Below V.heap.size V wc):=b2.out.trans (HB.out.mono b2.out.size);have I2:Hid _:=II.out.below BW.out;have FF:Hid (St (SX w0.heap.size d s) (fun V=>zaS V (some ⟨g,0,none⟩) (goF W.fs D Z)) wc):=zxu (F3.out.below HB.out) (fun h=>by have:=b7.out g h;omega);have b6:Hid _:=HC.out.less (fun b hb=>yx (b7.out b hb) b2.out.size)
   have b4:Hid (zdF w0 d me q (.returned (.tuple #[.int .i64 0,.int .i64 0])) (((((((wc.setCell ⟨d,0,none⟩ (.slice (some ⟨g,0,none⟩) n n)).setCell ⟨s.g1,D*4,none⟩ (.slice a0 r c0)).setCell ⟨s.g1,D*4+1,none⟩ (.slice a1 16 16)).setCell ⟨s.g1,D*4+2,none⟩ (.slice none 0 0)).setCell ⟨s.g1,D*4+3,none⟩ (.slice none 0 0)).setCell ⟨s.g2,D,none⟩ (.slice none 0 0)).setCell ⟨s.g3,D,none⟩ (.slice none 0 0))):=by
    obtain⟨s', d9⟩:=I2.out.moved (c0:=c0) a9.out HE.out FF.out b6.out g4.out;rw[HN.out] at d9;refine⟨0,s', by rw[T.out.1],fun _=>T.out.2.2.symm,?_⟩;rw[T.out.2.1];exact d9
   obtain⟨e4,e5,e6,e7,h7,k6,k7⟩:=zak I2.out.box;rw[HN.out] at e4 e5 e6 e7;obtain⟨z0,z1,z2,z3,zl⟩:=zxW HX.out;have b8:(wc.setCell ⟨d,0,none⟩ (.slice (some ⟨g,0,none⟩) n n)).cell? ⟨d,1,none⟩=some (.slice (some ⟨s.g1,0,none⟩) n n):=by have h:(wc.setCell ⟨d,0,none⟩ (.slice (some ⟨g,0,none⟩) n n)).heap[d]?=some (.cells #[.slice (some ⟨g,0,none⟩) n n,.slice (some ⟨s.g1,0,none⟩) W.fs.length W.fs.length,.slice (some ⟨s.g2,0,none⟩) W.fs.length W.fs.length,.slice (some ⟨s.g3,0,none⟩) W.fs.length W.fs.length,.slice s.a4 W.pt.length s.c4] 28 (0,0)):=zaR (i:=0) I2.out.box;have h2:=(zak h).2.1;rw[HN.out] at h2;exact h2
   have e9:Hid ((wc.setCell ⟨d,0,none⟩ (.slice (some ⟨g,0,none⟩) n n)).heap[d]?=some (.cells #[.slice (some ⟨g,0,none⟩) n n,.slice (some ⟨s.g1,0,none⟩) n n,.slice (some ⟨s.g2,0,none⟩) n n,.slice (some ⟨s.g3,0,none⟩) n n,.slice s.a4 nt s.c4] 28 (0,0))):=by have h:=I2.out.box;rw[HN.out,g0.out] at h;exact zaR (i:=0) h
   have b9:(wc.setCell ⟨d,0,none⟩ (.slice (some ⟨g,0,none⟩) n n)).drew.cell? ⟨d,1,none⟩=some (.slice (some ⟨s.g1,0,none⟩) n n):=b8;obtain⟨j0,j1,j2,j3,jf,jl⟩:=I2.out.rcells a9.out;have p2:wc.cell? ⟨s.g2,D,none⟩=some (.slice (s.P D).1 (prg W D).length (s.P D).2):=I2.out.r2.cell a9.out;have p3:wc.cell? ⟨s.g3,D,none⟩=some (.slice (s.Q D).1 (que W D).length (s.Q D).2):=I2.out.r3.cell a9.out;have f2:wc.frozen? ⟨s.g2,D,none⟩=false:=I2.out.r2.frozen _;have f3:wc.frozen? ⟨s.g3,D,none⟩=false:=I2.out.r3.frozen _;have yy:=zab my HB.out;clear m1 my mr F3 FF HC b6 HX I2 DN;have k8:¬ b=d:=by omega
   have i3:¬ d=b:=by omega
   have k9:¬ b=s.g1:=by omega
   have i4:¬ s.g1=b:=by omega
   have h8:¬ V.heap.size=d:=by omega
   have i5:¬ d=V.heap.size:=by omega
   have h9:¬ V.heap.size=s.g1:=by omega
   have i6:¬ s.g1=V.heap.size:=by omega
   have l5:¬ V.heap.size=s.g2:=by omega
   have i7:¬ s.g2=V.heap.size:=by omega
   have l6:¬ V.heap.size=s.g3:=by omega
   have i8:¬ s.g3=V.heap.size:=by omega
   have e1:¬ s.g1=d:=fun e=>d1 e.symm;have e2:¬ s.g2=d:=fun e=>d2 e.symm;have e3:¬ s.g3=d:=fun e=>d3 e.symm;have c6:¬ s.g2=s.g1:=fun e=>g5 e.symm;have c7:¬ s.g3=s.g1:=fun e=>g6 e.symm;have j4:¬ s.g3=s.g2:=fun e=>g7 e.symm
   go_wp2_with fail
   go_region_held3 (fun F=>F.cell? ⟨d,1,none⟩=some (.slice (some ⟨s.g1,0,none⟩) n n)/\F.cell? ⟨V.heap.size,4,none⟩=some (.int .i64 (D:Int))/\F.cell? ⟨b,0,none⟩=some (.slice a0 r c0)/\F.cell? ⟨b,1,none⟩=some (.slice a1 16 16)/\F.cell? ⟨b,2,none⟩=some (.slice none 0 0)/\F.cell? ⟨b,3,none⟩=some (.slice none 0 0)) (go_keep) (fail)
   go_wp2_with fail
   obtain⟨V7,a6⟩:∃ V7,(((((wc.setCell ⟨d,0,none⟩ (.slice (some ⟨g,0,none⟩) n n)).setCell ⟨s.g1,D*4,none⟩ (.slice a0 r c0)).setCell ⟨s.g1,D*4+1,none⟩ (.slice a1 16 16)).setCell ⟨s.g1,D*4+2,none⟩ (.slice none 0 0)).setCell ⟨s.g1,D*4+3,none⟩ (.slice none 0 0)).drew=V7:=⟨_,rfl⟩
   have b5:Hid (zdF w0 d me q (.returned (.tuple #[.int .i64 0,.int .i64 0])) ((V7.setCell ⟨s.g2,D,none⟩ (.slice none 0 0)).setCell ⟨s.g3,D,none⟩ (.slice none 0 0)).drew):=by
    obtain⟨o,s', h1,h2,h3⟩:=b4.out;rw[<- a6,zpB,zpB];exact⟨o,s', h1,h2,h3.below (yk _ _).drew.drew⟩
   have far:∀ j,j≠d->j≠s.g1->V7.heap[j]?=wc.heap[j]?:=fun j h1 h2=>by rw[<- a6];exact zwX wc h1 h2
   have d5:V7.heap[d]?=some (.cells #[.slice (some ⟨g,0,none⟩) n n,.slice (some ⟨s.g1,0,none⟩) n n,.slice (some ⟨s.g2,0,none⟩) n n,.slice (some ⟨s.g3,0,none⟩) n n,.slice s.a4 nt s.c4] 28 (0,0)):=by
    rw[<- a6];show ((((((wc.setCell ⟨d,0,none⟩ (.slice (some ⟨g,0,none⟩) n n)).setCell ⟨s.g1,D*4,none⟩ (.slice a0 r c0)).setCell ⟨s.g1,D*4+1,none⟩ (.slice a1 16 16)).setCell ⟨s.g1,D*4+2,none⟩ (.slice none 0 0)).setCell ⟨s.g1,D*4+3,none⟩ (.slice none 0 0))).heap[d]?=_;rw[ys _ _ _ _ d1,ys _ _ _ _ d1,ys _ _ _ _ d1,ys _ _ _ _ d1];exact e9.out
   rw[a6];clear a6 b4 b8 b9 e4 e5 e6 e7 h7 z0 z1 z2 z3 j0 j1 j2 j3;obtain⟨_,_,v2,v3,_,vf,vl⟩:=zak d5;have u2:=(yB (far s.g2 e2 c6)).trans p2;have u3:=(yB (far s.g3 e3 c7)).trans p3;have w2:=(yC (far s.g2 e2 c6)).trans f2;have l7:=(yC (far s.g3 e3 c7)).trans f3;have y7:=(yB (far V.heap.size h8 h9)).trans yy;clear p2 p3 f2 f3 yy far d5
   go_region_held3 (fun F=>F.cell? ⟨d,2,none⟩=some (.slice (some ⟨s.g2,0,none⟩) n n)/\F.cell? ⟨d,3,none⟩=some (.slice (some ⟨s.g3,0,none⟩) n n)/\F.cell? ⟨V.heap.size,4,none⟩=some (.int .i64 (D:Int))) (go_keep) (fail)
   go_wp2
   exact yv (v:=.tuple #[.int .i64 0,.int .i64 0]) (by simp[results,Tryz.results117,go_sem]) rfl b5.out
 ·have hN:q.e=E/\q.w=W:=⟨HI.out.1,HI.out.2.2 hE⟩;have T:Hid _:=hN;have hz:(E == 0)=false:=by simp[hE]
  have DD:Hid (∀ U,Below V.heap.size V U->Calls _ _ _ _ _):=D0.out hE;clear HI hN D0 D1
  go_region_held3 (fun F=>F.cell? ⟨d,0,none⟩=some (.slice s.a0 n s.c0)/\F.cell? ⟨V.heap.size,4,none⟩=some (.int .i64 (D:Int))/\F.cell? ⟨V.heap.size,1,none⟩=some (.int .i64 Z)) (go_keep) (first|(go_at_call 141;refine ye (DD.out J.drew BV.out.drew) ?_;rintro e w3 ⟨rfl,a7⟩;have B3:Hid (Below J.heap.size J w3):=(yk _ _).drew.trans a7;have c8:=zab l0 B3.out;have d4:=zab y4 B3.out;have c9:=zab y1 B3.out;clear a7))
  go_wp2
  exact yv (v:=.tuple #[.int .i64 0,.int .i64 E]) (by simp[results,Tryz.results117,go_sem]) rfl ⟨0,s,by rw[T.out.1],fun h=>absurd (T.out.1.symm.trans h) hE,by rw[T.out.2];exact II.out.below (BV.out.trans (B3.out.mono BV.out.size))⟩
theorem zrL(A B:RA)(R Q:Rl)(w:World)(hB:zsb R)(h1:zcp w A R)(h2:zcp w B Q) :
  Calls Tryz.prog 17 #[rlV A R,rlV B Q] w fun e w' => ∃ r:Bool,e=.returned (.bool r)/\Below w.heap.size w w' /\(r=true↔R=Q):=by
 obtain⟨a0,a1,a2,a3,c0,c1,c2,c3⟩:=A;obtain⟨Z,b1,b2,U,d0,d1,d2,d3⟩:=B;have EX:Hid (R=Q↔R.s=Q.s/\R.hs=Q.hs/\R.i=Q.i/\R.t=Q.t):=zAp;obtain⟨g1,g2,g3,g4,g5,g6⟩:=hB;have D1:Hid (∀ W,Below w.heap.size w W->_):=fun W O=>zwT a0 Z c0 d0 R.s Q.s W g1 g2 (h1.1.below O) (h2.1.below O);have D2:Hid (∀ W,Below w.heap.size w W->_):=fun W O=>zko a1 b1 c1 d1 R.hs Q.hs W g3 (h1.2.1.below O) (h2.2.1.below O);have D3:Hid (∀ W,Below w.heap.size w W->_):=fun W O=>ztq a2 b2 c2 d2 R.i Q.i W g4 g5 (h1.2.2.1.below O) (h2.2.2.1.below O);have D4:Hid (∀ W,Below w.heap.size w W->Calls Tryz.prog 29 #[.slice a3 R.t.length c3,.slice U Q.t.length d3] W fun e w' => ∃ r:Bool,e=.returned (.bool r)/\Below W.heap.size W w' /\(r=true↔R.t=Q.t)):=fun W O=>(zgU a3 U c3 d3 R.t Q.t W g6 (h1.2.2.2.below O) (h2.2.2.2.below O)).mono fun e w' ⟨e1,D⟩=>⟨_,e1,D,decide_eq_true_iff⟩;clear h1 h2 g1 g2 g3 g4 g5 g6;dsimp only[rlV];generalize R.s=x0 at *;generalize Q.s=y0 at *;generalize R.hs=x1 at *;generalize Q.hs=y1 at *;generalize R.i=x2 at *;generalize Q.i=y2 at *;generalize R.t=x3 at *;generalize Q.t=y3 at *;generalize x0.length=m0 at *;generalize y0.length=n0 at *;generalize x1.length=m1 at *;generalize y1.length=n1 at *;generalize x2.length=m2 at *;generalize y2.length=n2 at *;generalize x3.length=m3 at *;generalize y3.length=n3 at *
 go_enter Tryz.func17,Tryz.ntmps17
 go_wp2_with fail
 refine ye (D1.out _ (zam _ _ _)) ?_;rintro e W1 ⟨r1,rfl,D,T⟩;have a5:Hid _:=T;clear T;have E:Hid (Below w.heap.size w W1):=(zam w _ _).trans (D.mono (by simp;omega));have l0:=zab (zay w #[.slice a0 m0 c0,.slice a1 m1 c1,.slice a2 m2 c2,.slice a3 m3 c3] 50 0 (.cells #[.slice Z n0 d0,.slice b1 n1 d1,.slice b2 n2 d2,.slice U n3 d3] 50) rfl) D;have F:=zab (zaz w #[.slice Z n0 d0,.slice b1 n1 d1,.slice b2 n2 d2,.slice U n3 d3] 50 0 (.cells #[.slice a0 m0 c0,.slice a1 m1 c1,.slice a2 m2 c2,.slice a3 m3 c3] 50) rfl) D;have l1:=zab (zay w #[.slice a0 m0 c0,.slice a1 m1 c1,.slice a2 m2 c2,.slice a3 m3 c3] 50 1 (.cells #[.slice Z n0 d0,.slice b1 n1 d1,.slice b2 n2 d2,.slice U n3 d3] 50) rfl) D;have I:=zab (zaz w #[.slice Z n0 d0,.slice b1 n1 d1,.slice b2 n2 d2,.slice U n3 d3] 50 1 (.cells #[.slice a0 m0 c0,.slice a1 m1 c1,.slice a2 m2 c2,.slice a3 m3 c3] 50) rfl) D;have l2:=zab (zay w #[.slice a0 m0 c0,.slice a1 m1 c1,.slice a2 m2 c2,.slice a3 m3 c3] 50 2 (.cells #[.slice Z n0 d0,.slice b1 n1 d1,.slice b2 n2 d2,.slice U n3 d3] 50) rfl) D;have J:=zab (zaz w #[.slice Z n0 d0,.slice b1 n1 d1,.slice b2 n2 d2,.slice U n3 d3] 50 2 (.cells #[.slice a0 m0 c0,.slice a1 m1 c1,.slice a2 m2 c2,.slice a3 m3 c3] 50) rfl) D;have l3:=zab (zay w #[.slice a0 m0 c0,.slice a1 m1 c1,.slice a2 m2 c2,.slice a3 m3 c3] 50 3 (.cells #[.slice Z n0 d0,.slice b1 n1 d1,.slice b2 n2 d2,.slice U n3 d3] 50) rfl) D
 have M:=zab (zaz w #[.slice Z n0 d0,.slice b1 n1 d1,.slice b2 n2 d2,.slice U n3 d3] 50 3 (.cells #[.slice a0 m0 c0,.slice a1 m1 c1,.slice a2 m2 c2,.slice a3 m3 c3] 50) rfl) D;clear D D1;cases r1
 ·go_wp2_with fail
  go_ret;exact⟨_,rfl,E.out,⟨fun h=>(by cases h),fun h=>(by have:=a5.out.2 ((EX.out.1 h).1);cases this)⟩⟩
 go_wp2_with fail
 refine ye (D2.out _ E.out) ?_;rintro e W2 ⟨r2,rfl,D,T⟩;have a6:Hid _:=T;clear T;have E:Hid (Below w.heap.size w W2):=E.out.trans (D.mono E.out.size);have l0:=zab l0 D;have F:=zab F D;have l1:=zab l1 D;have I:=zab I D;have l2:=zab l2 D;have J:=zab J D;have l3:=zab l3 D;have M:=zab M D;clear D D2;cases r2
 ·go_wp2_with fail
  go_ret;exact⟨_,rfl,E.out,⟨fun h=>(by cases h),fun h=>(by have:=a6.out.2 ((EX.out.1 h).2.1);cases this)⟩⟩
 go_wp2_with fail
 refine ye (D3.out _ E.out) ?_;rintro e W3 ⟨r3,rfl,D,T⟩;have a7:Hid _:=T;clear T;have E:Hid (Below w.heap.size w W3):=E.out.trans (D.mono E.out.size);have l0:=zab l0 D;have F:=zab F D;have l1:=zab l1 D;have I:=zab I D;have l2:=zab l2 D;have J:=zab J D;have l3:=zab l3 D;have M:=zab M D;clear D D3;cases r3
 ·go_wp2_with fail
  go_ret;exact⟨_,rfl,E.out,⟨fun h=>(by cases h),fun h=>(by have:=a7.out.2 ((EX.out.1 h).2.2.1);cases this)⟩⟩
 go_wp2_with fail
 refine ye (D4.out _ E.out) ?_;rintro e W4 ⟨r4,rfl,D,T⟩;have a8:Hid _:=T;clear T;have E:Hid (Below w.heap.size w W4):=E.out.trans (D.mono E.out.size);have l0:=zab l0 D;have F:=zab F D;have l1:=zab l1 D;have I:=zab I D;have l2:=zab l2 D;have J:=zab J D;have l3:=zab l3 D;have M:=zab M D;clear D D4
 go_wp2_with fail
 go_ret;exact⟨_,rfl,E.out,⟨fun h=>EX.out.2 ⟨a5.out.1 trivial,a6.out.1 trivial,a7.out.1 trivial,a8.out.1 h⟩,fun h=>a8.out.2 (EX.out.1 h).2.2.2⟩⟩
end Go.Proofs.YtcbcpomacdngmaaGreat
