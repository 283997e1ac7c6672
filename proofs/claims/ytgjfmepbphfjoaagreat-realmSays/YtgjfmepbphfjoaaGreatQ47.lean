/-
  x
-/
import Derived.Test.YtgjfmepbphfjoaaGreatQ46
namespace Go.Proofs.YtgjfmepbphfjoaaGreat
set_option maxRecDepth 100000
set_option maxHeartbeats 4000000
set_option linter.unusedVariables false
open Go.RowKit Go.ChangeShapes Go.WideShapes
theorem zew{W:World}{b t:Nat}{w v1 v2 A D F I J:Value}(h:W.heap[b]?=some (.cells #[w,v1,v2,A,D,F,I,J] t (0,0))):W.cell? ⟨b,0,none⟩=some w/\W.cell? ⟨b,1,none⟩=some v1/\W.cell? ⟨b,2,none⟩=some v2/\W.cell? ⟨b,3,none⟩=some A/\W.cell? ⟨b,4,none⟩=some D/\W.cell? ⟨b,5,none⟩=some F/\W.cell? ⟨b,6,none⟩=some I/\W.cell? ⟨b,7,none⟩=some J/\(∀ o,W.frozen? ⟨b,o,none⟩=false)/\b<W.heap.size :=
 ⟨by simp[World.cell?,h],by simp[World.cell?,h],by simp[World.cell?,h],by simp[World.cell?,h],by simp[World.cell?,h],by simp[World.cell?,h],by simp[World.cell?,h],by simp[World.cell?,h],fun o=>by simp[World.frozen?,h],zaC h⟩
theorem zrV{V w w3:World}(x:Nd)(A:Value)(t:Nat)(D:Below V.heap.size V w)(b3:Below w.heap.size w w3) :
  Hid (Below V.heap.size V (w3.alloc (.cells #[.bool x.u,.int .i64 x.n,.int .i64 x.t,.int .i64 x.m,.int .i64 x.p,A,.int .i64 x.h,.bool x.c] t)))/\(w3.alloc (.cells #[.bool x.u,.int .i64 x.n,.int .i64 x.t,.int .i64 x.m,.int .i64 x.p,A,.int .i64 x.h,.bool x.c] t)).cell? ⟨w3.heap.size,3,none⟩=some (.int .i64 x.m)/\(w3.alloc (.cells #[.bool x.u,.int .i64 x.n,.int .i64 x.t,.int .i64 x.m,.int .i64 x.p,A,.int .i64 x.h,.bool x.c] t)).cell? ⟨w3.heap.size,4,none⟩=some (.int .i64 x.p)/\V.heap.size<=w3.heap.size:=by
 have b:=D.trans (b3.mono D.size);exact⟨b.trans ((zab _ _).mono b.size),zad _ _ _ 3 rfl,zad _ _ _ 4 rfl,b.size⟩
theorem zpy{W:World}{b t:Nat}{z0 z1 J I F D A w u0 u1 u2 u3 u4 u5 u6 u7:Value}(h:W.heap[b]?=some (.cells #[z0,z1,J,I,F,D,A,w] t (0,0))):((((((((W.setCell ⟨b,0,none⟩ u0).setCell ⟨b,1,none⟩ u1).setCell ⟨b,2,none⟩ u2).setCell ⟨b,3,none⟩ u3).setCell ⟨b,4,none⟩ u4).setCell ⟨b,5,none⟩ u5).setCell ⟨b,6,none⟩ u6).setCell ⟨b,7,none⟩ u7).heap[b]?=some (.cells #[u0,u1,u2,u3,u4,u5,u6,u7] t (0,0)):=by
 have k0:(W.setCell ⟨b,0,none⟩ u0).heap[b]?=some (.cells #[u0,z1,J,I,F,D,A,w] t (0,0)):=zbB (i:=0) h;generalize W.setCell ⟨b,0,none⟩ u0=M at k0 |-;have k1:(M.setCell ⟨b,1,none⟩ u1).heap[b]?=some (.cells #[u0,u1,J,I,F,D,A,w] t (0,0)):=zbB (i:=1) k0;generalize M.setCell ⟨b,1,none⟩ u1=O at k1 |-;have k2:(O.setCell ⟨b,2,none⟩ u2).heap[b]?=some (.cells #[u0,u1,u2,I,F,D,A,w] t (0,0)):=zbB (i:=2) k1;generalize O.setCell ⟨b,2,none⟩ u2=T at k2 |-;have k3:(T.setCell ⟨b,3,none⟩ u3).heap[b]?=some (.cells #[u0,u1,u2,u3,F,D,A,w] t (0,0)):=zbB (i:=3) k2;generalize T.setCell ⟨b,3,none⟩ u3=U at k3 |-;have k4:(U.setCell ⟨b,4,none⟩ u4).heap[b]?=some (.cells #[u0,u1,u2,u3,u4,D,A,w] t (0,0)):=zbB (i:=4) k3;generalize U.setCell ⟨b,4,none⟩ u4=V at k4 |-;have k5:(V.setCell ⟨b,5,none⟩ u5).heap[b]?=some (.cells #[u0,u1,u2,u3,u4,u5,A,w] t (0,0)):=zbB (i:=5) k4;generalize V.setCell ⟨b,5,none⟩ u5=Z at k5 |-;have k6:(Z.setCell ⟨b,6,none⟩ u6).heap[b]?=some (.cells #[u0,u1,u2,u3,u4,u5,u6,w] t (0,0)):=zbB (i:=6) k5;generalize Z.setCell ⟨b,6,none⟩ u6=W6 at k6 |-;have k7:(W6.setCell ⟨b,7,none⟩ u7).heap[b]?=some (.cells #[u0,u1,u2,u3,u4,u5,u6,u7] t (0,0)):=zbB (i:=7) k6;exact k7
theorem zrW{V w w3:World}{t:Nat}{I J M O T U Z z7:Value}(x:Nd)(A:Value)(D:Below V.heap.size V w)(b3:Below w.heap.size w w3)(F:w3.heap[w.heap.size]?=some (.cells #[I,J,M,O,T,U,Z,z7] t (0,0))) :
  Hid (Below V.heap.size V ((((((((w3.setCell ⟨w.heap.size,0,none⟩ (.bool x.u)).setCell ⟨w.heap.size,1,none⟩ (.int .i64 x.n)).setCell ⟨w.heap.size,2,none⟩ (.int .i64 x.t)).setCell ⟨w.heap.size,3,none⟩ (.int .i64 x.m)).setCell ⟨w.heap.size,4,none⟩ (.int .i64 x.p)).setCell ⟨w.heap.size,5,none⟩ A).setCell ⟨w.heap.size,6,none⟩ (.int .i64 x.h)).setCell ⟨w.heap.size,7,none⟩ (.bool x.c)))/\((((((((w3.setCell ⟨w.heap.size,0,none⟩ (.bool x.u)).setCell ⟨w.heap.size,1,none⟩ (.int .i64 x.n)).setCell ⟨w.heap.size,2,none⟩ (.int .i64 x.t)).setCell ⟨w.heap.size,3,none⟩ (.int .i64 x.m)).setCell ⟨w.heap.size,4,none⟩ (.int .i64 x.p)).setCell ⟨w.heap.size,5,none⟩ A).setCell ⟨w.heap.size,6,none⟩ (.int .i64 x.h)).setCell ⟨w.heap.size,7,none⟩ (.bool x.c)).cell? ⟨w.heap.size,3,none⟩=some (.int .i64 x.m)/\((((((((w3.setCell ⟨w.heap.size,0,none⟩ (.bool x.u)).setCell ⟨w.heap.size,1,none⟩ (.int .i64 x.n)).setCell ⟨w.heap.size,2,none⟩ (.int .i64 x.t)).setCell ⟨w.heap.size,3,none⟩ (.int .i64 x.m)).setCell ⟨w.heap.size,4,none⟩ (.int .i64 x.p)).setCell ⟨w.heap.size,5,none⟩ A).setCell ⟨w.heap.size,6,none⟩ (.int .i64 x.h)).setCell ⟨w.heap.size,7,none⟩ (.bool x.c)).cell? ⟨w.heap.size,4,none⟩=some (.int .i64 x.p)/\V.heap.size<=w.heap.size:=by
 have b:=D.trans (b3.mono D.size);have s:=D.size;have k:=zpy (u0:=.bool x.u) (u1:=.int .i64 x.n) (u2:=.int .i64 x.t) (u3:=.int .i64 x.m) (u4:=.int .i64 x.p) (u5:=A) (u6:=.int .i64 x.h) (u7:=.bool x.c) F;obtain⟨_,_,_,c3,c4,_⟩:=zew k;exact⟨(((((((b.setCell s _).setCell s _).setCell s _).setCell s _).setCell s _).setCell s _).setCell s _).setCell s _,c3,c4,s⟩
theorem zjA(w:World)(R:Rl)(x:Ac)(wf:WF R.s)(hl:R.hs.length=16)(ha:isH x.a):zit 59 #[] w R x (zsk R (hd R x.a)):=fun d h g A V I=>by
 unfold zsk;rw[zhG];obtain⟨a0,a1,a2,a3,c0,c1,c2,c3⟩:=A;obtain rfl:a0=some ⟨g,0,none⟩:=I.a0;obtain rfl:a1=some ⟨h,0,none⟩:=I.a1;obtain⟨xk,xa,xb,xc,xn⟩:=x;obtain⟨p,hp,b5⟩:=zjc ha;dsimp only at hp;subst hp;obtain⟨u0,u1⟩:=I.hand (k:=p) (by omega);have II:Hid (WI w R d h g _ V):=I;have D:Hid (∀ W,Below V.heap.size V W->Calls Tryz.prog 10 #[.agg #[.slice (some ⟨g,0,none⟩) R.s.length c0],.agg #[.int .i64 (hd R (p:Int)).1,.int .i64 (hd R (p:Int)).2]] W fun e w' => ∃ (x:Nd) (ka:Option Addr) (kl kc:Nat),e=.returned (.tuple #[.agg #[.bool x.u,.int .i64 x.n,.int .i64 x.t,.int .i64 x.m,.int .i64 x.p,.slice ka kl kc,.int .i64 x.h,.bool x.c],.int .i64 (zas R.s (hd R (p:Int)).1 (hd R (p:Int)).2)])/\Below W.heap.size W w' /\(zas R.s (hd R (p:Int)).1 (hd R (p:Int)).2=0->x=nd R.s (hd R (p:Int)).1.toNat)/\(zas R.s (hd R (p:Int)).1 (hd R (p:Int)).2≠0->x=zdd)):=fun W hW=>zgd R.s _ _ _ c0 W wf (I.nds.below hW);obtain⟨l0,l1,l2,l3,fz,lt⟩:=zaa I.box;dsimp only at l0 l1 l2 l3;rw[hl] at l1;have b8:d<V.heap.size:=lt;have b9:h<V.heap.size:=ye _ _ u0;have c6:(p:Int)<16:=by omega
 show Calls Tryz.prog _ #[.pointer (some ⟨d,0,none⟩),.agg #[.int .i64 xk,.int .i64 p,.int .i64 xb,.int .i64 xc,.int .i64 xn]] V _;obtain⟨ns,a5⟩:∃ n,R.s.length=n:=⟨_,rfl⟩;have b6:Hid (R.s.length=ns):=a5;clear ha hl;generalize hd R (p:Int)=hh at *;obtain⟨P,U⟩:=hh;dsimp only at u0 u1 D |-;obtain⟨E,hE⟩:∃ E,zas R.s P U=E:=⟨_,rfl⟩;have HE:Hid (zas R.s P U=E):=hE;rw[hE] at D |-;clear hE;rw[a5] at D l0;clear a5 I
 go_enter Tryz.func59,Tryz.ntmps59
 go_upto_region 1 with fail
 obtain⟨F,J⟩:∃ F,V.alloc (.cells #[.int .i64 xk,.int .i64 p,.int .i64 xb,.int .i64 xc,.int .i64 xn] 41)=F:=⟨_,rfl⟩;have T:Hid (Below V.heap.size V F):=by rw[<- J];exact zab _ _
 have y0:F.cell? ⟨V.heap.size,0,none⟩=some (.int .i64 xk):=by rw[<- J];exact zad _ _ _ 0 rfl
 have y1:F.cell? ⟨V.heap.size,1,none⟩=some (.int .i64 p):=by rw[<- J];exact zad _ _ _ 1 rfl
 have y2:F.cell? ⟨V.heap.size,2,none⟩=some (.int .i64 xb):=by rw[<- J];exact zad _ _ _ 2 rfl
 have y3:F.cell? ⟨V.heap.size,3,none⟩=some (.int .i64 xc):=by rw[<- J];exact zad _ _ _ 3 rfl
 have y4:F.cell? ⟨V.heap.size,4,none⟩=some (.int .i64 xn):=by rw[<- J];exact zad _ _ _ 4 rfl
 have sV:V.heap.size<F.heap.size:=ye _ _ y0;rw[J];clear J;replace u0:=zac u0 T.out;replace u1:=zac u1 T.out;replace l0:=zac l0 T.out;replace l1:=zac l1 T.out;replace l2:=zac l2 T.out;replace l3:=zac l3 T.out;have n0:¬ F.heap.size=d:=by omega
 have o0:¬ d=F.heap.size:=by omega
 have n1:¬ F.heap.size=h:=by omega
 have o1:¬ h=F.heap.size:=by omega
 have n2:¬ F.heap.size=V.heap.size:=by omega
 have o2:¬ V.heap.size=F.heap.size:=by omega
 have c8:d<F.heap.size:=by omega
 have c9:h<F.heap.size:=by omega
 clear fz lt
 go_cut [6,7] (fun s6 s7 wx=>∃ (b:Nat) (m pp:Int),s6=.pointer (some ⟨b,0,none⟩)/\s7=.int .i64 E/\Hid (Below F.heap.size F wx)/\wx.cell? ⟨b,3,none⟩=some (.int .i64 m)/\wx.cell? ⟨b,4,none⟩=some (.int .i64 pp)/\F.heap.size<=b/\Hid (E=0->m=(nd R.s P.toNat).m/\pp=(nd R.s P.toNat).p))
 case first =>
  go_region_held3 (fun a4=>a4.cell? ⟨d,0,none⟩=some (.slice (some ⟨g,0,none⟩) ns c0)/\a4.cell? ⟨d,1,none⟩=some (.slice (some ⟨h,0,none⟩) 16 c1)/\a4.cell? ⟨h,p*2,none⟩=some (.int .i64 P)/\a4.cell? ⟨h,p*2+1,none⟩=some (.int .i64 U)/\a4.cell? ⟨V.heap.size,1,none⟩=some (.int .i64 p)) (go_keep) (first|(go_at_call 10;refine yf (D.out F.drew T.out.drew) ?_;rintro e w5 ⟨nx,ka,kl,kc,rfl,O,Z,hx2⟩;have M:Hid (Below F.heap.size F w5):=(yj _ _).drew.trans O;have HX:Hid _:=Z;have a6:=zac l0 M.out;have a7:=zac l1 M.out;have a8:=zac u0 M.out;have a9:=zac u1 M.out;have b4:=zac y1 M.out;clear O Z hx2)|(go_at_call 10;refine yf (D.out (F.alloc (.cells #[.bool false,.int .i64 0,.int .i64 0,.int .i64 0,.int .i64 0,.slice none 0 0,.int .i64 0,.bool false] 47)).drew (T.out.trans ((zab F _).mono T.out.size)).drew) ?_;rintro e w5 ⟨nx,ka,kl,kc,rfl,O,Z,hx2⟩;have M:Hid (Below F.heap.size F w5):=(zab F _).drew.trans (O.mono (by simp));have HX:Hid _:=Z;have a6:=zac l0 M.out;have a7:=zac l1 M.out;have a8:=zac u0 M.out;have a9:=zac u1 M.out;have b4:=zac y1 M.out;have X3:Hid (w5.heap[F.heap.size]?=some (.cells #[.bool false,.int .i64 0,.int .i64 0,.int .i64 0,.int .i64 0,.slice none 0 0,.int .i64 0,.bool false] 47 (0,0))):=zaU (W:=(F.alloc (.cells #[.bool false,.int .i64 0,.int .i64 0,.int .i64 0,.int .i64 0,.slice none 0 0,.int .i64 0,.bool false] 47)).drew) (heap_alloc_new F _) O;obtain⟨z0,z1,z2,z3,z4,z5,z6,z7,zf,zl⟩:=zew X3.out;clear O Z hx2))
  ·go_wp2_with fail
   go_meet
   case rel =>
    have r:=zrV nx (.slice ka kl kc) 47 (yj F.heap.size F) M.out;exact⟨_,_,_,rfl,rfl,r.1,r.2.1,r.2.2.1,r.2.2.2,fun h=>by rw[HX.out h];exact⟨rfl,rfl⟩⟩
  ·go_wp2_with fail
   go_meet
   case rel =>
    have r:=zrW nx (.slice ka kl kc) (yj F.heap.size F) M.out X3.out;exact⟨_,_,_,rfl,rfl,r.1,r.2.1,r.2.2.1,r.2.2.2,fun h=>by rw[HX.out h];exact⟨rfl,rfl⟩⟩
 case rest =>
  obtain⟨b,m,pp,rfl,rfl,HB,hm,c7,b7,HM⟩:=hcut;have I2:Hid _:=II.out.below (T.out.trans (HB.out.mono T.out.size));clear II D u0 u1 l0 l1 l2 l3 y0 y1 y2 y3 y4
  go_wp2
  refine yq (v:=.tuple #[.int .i64 m,.int .i64 E]) (by simp[results,Tryz.results59,go_sem]) rfl ⟨m,rfl,I2.out.bel,fun hE=>?_⟩;rw[zhF hE];exact⟨(HM.out hE).1,_,I2.out.box,I2.out.rl⟩
theorem zgK(F:Nat)(eg:∀ args w,(callFunc F args).run Tryz.prog w=.ok (.enter F args) w)(cb:Nat)(w:World)(hc:w.cell? ⟨cb,0,none⟩=some (.func (.func F) #[] #[]))(R:Rl)(x:Ac)(hl:R.hs.length=16)(ha:isH x.a)(E:Int)(N:Nat)
  (hF:∀ (a:Option Addr) (c:Nat) (W:World),zae W a R.s->Calls Tryz.prog F #[.agg #[.slice a R.s.length c],hdV (hd R x.a),acV x] W fun e w' => ∃ a' c' n,e=.returned (.tuple #[.slice a' n c', .int .i64 E])/\Below W.heap.size W w' /\(E=0->n=N)) :
  zit 108 #[.pointer (some ⟨cb,0,none⟩)] w R x (ans E R N):=fun d h g A V I=>by
 rw[zhG];obtain⟨a0,a1,a2,a3,c0,c1,c2,c3⟩:=A;obtain rfl:a0=some ⟨g,0,none⟩:=I.a0;obtain rfl:a1=some ⟨h,0,none⟩:=I.a1;obtain⟨xk,xa,xb,xc,xn⟩:=x;obtain⟨p,hp,c7⟩:=zjc ha;dsimp only at hp;subst hp;obtain⟨u0,u1⟩:=I.hand (k:=p) (by omega);have II:Hid (WI w R d h g _ V):=I;have D:Hid (∀ W,Below V.heap.size V W->Calls Tryz.prog F #[.agg #[.slice (some ⟨g,0,none⟩) R.s.length c0],.agg #[.int .i64 (hd R (p:Int)).1,.int .i64 (hd R (p:Int)).2],.agg #[.int .i64 xk,.int .i64 p,.int .i64 xb,.int .i64 xc,.int .i64 xn]] W fun e w' => ∃ a' c' n,e=.returned (.tuple #[.slice a' n c', .int .i64 E])/\Below W.heap.size W w' /\(E=0->n=N)):=fun W hW=>hF (some ⟨g,0,none⟩) c0 W (I.nds.below hW);clear hF;have k0:=(I.bel.cell (ye _ _ hc)).trans hc;obtain⟨l0,l1,l2,l3,fz,lt⟩:=zaa I.box;dsimp only at l0 l1 l2 l3;rw[hl] at l1;have d7:d<V.heap.size:=lt;have d8:h<V.heap.size:=ye _ _ u0;have d6:cb<V.heap.size:=ye _ _ k0;have d9:(p:Int)<16:=by omega
 show Calls Tryz.prog _ #[.pointer (some ⟨d,0,none⟩),.agg #[.int .i64 xk,.int .i64 p,.int .i64 xb,.int .i64 xc,.int .i64 xn],.pointer (some ⟨cb,0,none⟩)] V _;obtain⟨ns,a4⟩:∃ n,R.s.length=n:=⟨_,rfl⟩;have c9:Hid (R.s.length=ns):=a4;clear ha hl;generalize hd R (p:Int)=hh at *;obtain⟨P,U⟩:=hh;dsimp only at u0 u1 D |-;rw[a4] at D l0;clear a4 I hc
 go_enter Tryz.func108,Tryz.ntmps108
 go_upto_region 1 with fail
 obtain⟨J,O⟩:∃ J,V.alloc (.cells #[.int .i64 xk,.int .i64 p,.int .i64 xb,.int .i64 xc,.int .i64 xn] 41)=J:=⟨_,rfl⟩;have Z:Hid (Below V.heap.size V J):=by rw[<- O];exact zab _ _
 have y0:J.cell? ⟨V.heap.size,0,none⟩=some (.int .i64 xk):=by rw[<- O];exact zad _ _ _ 0 rfl
 have y1:J.cell? ⟨V.heap.size,1,none⟩=some (.int .i64 p):=by rw[<- O];exact zad _ _ _ 1 rfl
 have y2:J.cell? ⟨V.heap.size,2,none⟩=some (.int .i64 xb):=by rw[<- O];exact zad _ _ _ 2 rfl
 have y3:J.cell? ⟨V.heap.size,3,none⟩=some (.int .i64 xc):=by rw[<- O];exact zad _ _ _ 3 rfl
 have y4:J.cell? ⟨V.heap.size,4,none⟩=some (.int .i64 xn):=by rw[<- O];exact zad _ _ _ 4 rfl
 have sV:V.heap.size<J.heap.size:=ye _ _ y0;rw[O];clear O;replace u0:=zac u0 Z.out;replace u1:=zac u1 Z.out;replace l0:=zac l0 Z.out;replace l1:=zac l1 Z.out;replace l2:=zac l2 Z.out;replace l3:=zac l3 Z.out;replace k0:=zac k0 Z.out;have n0:¬ J.heap.size=d:=by omega
 have o0:¬ d=J.heap.size:=by omega
 have n1:¬ J.heap.size=h:=by omega
 have o1:¬ h=J.heap.size:=by omega
 have n2:¬ J.heap.size=cb:=by omega
 have o2:¬ cb=J.heap.size:=by omega
 have n3:¬ J.heap.size=V.heap.size:=by omega
 have o3:¬ V.heap.size=J.heap.size:=by omega
 have e0:d<J.heap.size:=by omega
 have e6:h<J.heap.size:=by omega
 have c8:cb<J.heap.size:=by omega
 clear fz lt
 go_region_held3 (fun M=>M.cell? ⟨cb,0,none⟩=some (.func (.func F) #[] #[])/\M.cell? ⟨d,0,none⟩=some (.slice (some ⟨g,0,none⟩) ns c0)/\M.cell? ⟨d,1,none⟩=some (.slice (some ⟨h,0,none⟩) 16 c1)/\M.cell? ⟨h,p*2,none⟩=some (.int .i64 P)/\M.cell? ⟨h,p*2+1,none⟩=some (.int .i64 U)/\M.cell? ⟨V.heap.size,0,none⟩=some (.int .i64 xk)/\M.cell? ⟨V.heap.size,1,none⟩=some (.int .i64 p)/\M.cell? ⟨V.heap.size,2,none⟩=some (.int .i64 xb)/\M.cell? ⟨V.heap.size,3,none⟩=some (.int .i64 xc)/\M.cell? ⟨V.heap.size,4,none⟩=some (.int .i64 xn)) (go_keep) (first|(refine yf (D.out J.drew Z.out.drew) ?_;rintro e w3 ⟨a', c', n,rfl,a5,a6⟩;have T:Hid (Below J.heap.size J w3):=(yj _ _).drew.trans a5;have N3:Hid _:=a6;have a7:=zac k0 T.out;have a8:=zac l0 T.out;have a9:=zac l1 T.out;have b4:=zac u0 T.out;have b5:=zac u1 T.out;have b6:=zac y0 T.out;have b7:=zac y1 T.out;have b8:=zac y2 T.out;have b9:=zac y3 T.out;have c6:=zac y4 T.out;clear a5 a6))
 have I2:Hid _:=II.out.below (Z.out.trans (T.out.mono Z.out.size));clear II D u0 u1 l0 l1 l2 l3 k0 y0 y1 y2 y3 y4 a7 a8 a9 b4 b5 b6 b7 b8 b9 c6
 go_wp2
 refine yq (v:=.tuple #[.int .i64 n,.int .i64 E]) (by simp[results,Tryz.results108,go_sem]) rfl ⟨n,rfl,I2.out.bel,fun hE=>?_⟩;rw[zhF hE];exact⟨by rw[N3.out hE],_,I2.out.box,I2.out.rl⟩
theorem zsz(w:World)(R:Rl)(x:Ac)(wf:WF R.s)(hl:R.hs.length=16)(ha:isH x.a)(b5:isH x.b):zit 69 #[] w R x (aUp R x.b (hd R x.a)):=fun d h g A V I=>by
 unfold aUp;rw[zhG];obtain⟨a0,a1,a2,a3,c0,c1,c2,c3⟩:=A;obtain rfl:a0=some ⟨g,0,none⟩:=I.a0;obtain rfl:a1=some ⟨h,0,none⟩:=I.a1;obtain⟨xk,xa,xb,xc,xn⟩:=x;obtain⟨p,hp,d7⟩:=zjc ha;dsimp only at hp;subst hp;obtain⟨u0,u1⟩:=I.hand (k:=p) (by omega);obtain⟨r,hr,d8⟩:=zjc b5;dsimp only at hr;subst hr;obtain⟨v0,v1⟩:=I.hand (k:=r) (by omega);have II:Hid (WI w R d h g _ V):=I;have D:Hid (∀ W,Below V.heap.size V W->Calls Tryz.prog 10 #[.agg #[.slice (some ⟨g,0,none⟩) R.s.length c0],.agg #[.int .i64 (hd R (p:Int)).1,.int .i64 (hd R (p:Int)).2]] W fun e w' => ∃ (x:Nd) (ka:Option Addr) (kl kc:Nat),e=.returned (.tuple #[.agg #[.bool x.u,.int .i64 x.n,.int .i64 x.t,.int .i64 x.m,.int .i64 x.p,.slice ka kl kc,.int .i64 x.h,.bool x.c],.int .i64 (zas R.s (hd R (p:Int)).1 (hd R (p:Int)).2)])/\Below W.heap.size W w' /\(zas R.s (hd R (p:Int)).1 (hd R (p:Int)).2=0->x=nd R.s (hd R (p:Int)).1.toNat)/\(zas R.s (hd R (p:Int)).1 (hd R (p:Int)).2≠0->x=zdd)):=fun W hW=>zgd R.s _ _ _ c0 W wf (I.nds.below hW);obtain⟨l0,l1,l2,l3,fz,lt⟩:=zaa I.box;dsimp only at l0 l1 l2 l3;rw[hl] at l1;have e0:d<V.heap.size:=lt;have f0:h<V.heap.size:=ye _ _ u0;have f6:(p:Int)<16:=by omega
 have f8:(r:Int)<16:=by omega
 show Calls Tryz.prog _ #[.pointer (some ⟨d,0,none⟩),.agg #[.int .i64 xk,.int .i64 p,.int .i64 r,.int .i64 xc,.int .i64 xn]] V _;obtain⟨ns,a6⟩:∃ n,R.s.length=n:=⟨_,rfl⟩;have a8:Hid (R.s.length=ns):=a6;have HL:Hid (R.hs.length=16):=hl;clear v0 v1 b5;clear ha hl;generalize hd R (p:Int)=hh at *;obtain⟨P,U⟩:=hh;dsimp only at u0 u1 D |-;obtain⟨E,hE⟩:∃ E,zas R.s P U=E:=⟨_,rfl⟩;have HE:Hid (zas R.s P U=E):=hE;obtain⟨M,hM⟩:∃ M,upE R.s P U=M:=⟨_,rfl⟩;have HM:Hid (upE R.s P U=M):=hM;rw[hE] at D;rw[hM];clear hE hM;rw[a6] at D l0;clear a6 I
 go_enter Tryz.func69,Tryz.ntmps69
 go_upto_region 1 with fail
 obtain⟨F,J⟩:∃ F,V.alloc (.cells #[.int .i64 xk,.int .i64 p,.int .i64 r,.int .i64 xc,.int .i64 xn] 41)=F:=⟨_,rfl⟩;have Z:Hid (Below V.heap.size V F):=by rw[<- J];exact zab _ _
 have y0:F.cell? ⟨V.heap.size,0,none⟩=some (.int .i64 xk):=by rw[<- J];exact zad _ _ _ 0 rfl
 have y1:F.cell? ⟨V.heap.size,1,none⟩=some (.int .i64 p):=by rw[<- J];exact zad _ _ _ 1 rfl
 have y2:F.cell? ⟨V.heap.size,2,none⟩=some (.int .i64 r):=by rw[<- J];exact zad _ _ _ 2 rfl
 have y3:F.cell? ⟨V.heap.size,3,none⟩=some (.int .i64 xc):=by rw[<- J];exact zad _ _ _ 3 rfl
 have y4:F.cell? ⟨V.heap.size,4,none⟩=some (.int .i64 xn):=by rw[<- J];exact zad _ _ _ 4 rfl
 have sV:V.heap.size<F.heap.size:=ye _ _ y0;rw[J];clear J;replace u0:=zac u0 Z.out;replace u1:=zac u1 Z.out;replace l0:=zac l0 Z.out;replace l1:=zac l1 Z.out;replace l2:=zac l2 Z.out;replace l3:=zac l3 Z.out;have n0:¬ F.heap.size=d:=by omega
 have o0:¬ d=F.heap.size:=by omega
 have n1:¬ F.heap.size=h:=by omega
 have o1:¬ h=F.heap.size:=by omega
 have n2:¬ F.heap.size=V.heap.size:=by omega
 have o2:¬ V.heap.size=F.heap.size:=by omega
 have f9:d<F.heap.size:=by omega
 have g0:h<F.heap.size:=by omega
 clear fz lt
 go_cut [6,7] (fun s6 s7 wx=>∃ (b:Nat) (m pp:Int),s6=.pointer (some ⟨b,0,none⟩)/\s7=.int .i64 E/\Hid (Below F.heap.size F wx)/\wx.cell? ⟨b,3,none⟩=some (.int .i64 m)/\wx.cell? ⟨b,4,none⟩=some (.int .i64 pp)/\F.heap.size<=b/\Hid (E=0->m=(nd R.s P.toNat).m/\pp=(nd R.s P.toNat).p))
 case first =>
  go_region_held3 (fun a5=>a5.cell? ⟨d,0,none⟩=some (.slice (some ⟨g,0,none⟩) ns c0)/\a5.cell? ⟨d,1,none⟩=some (.slice (some ⟨h,0,none⟩) 16 c1)/\a5.cell? ⟨h,p*2,none⟩=some (.int .i64 P)/\a5.cell? ⟨h,p*2+1,none⟩=some (.int .i64 U)/\a5.cell? ⟨V.heap.size,1,none⟩=some (.int .i64 p)) (go_keep) (first|(go_at_call 10;refine yf (D.out F.drew Z.out.drew) ?_;rintro e w5 ⟨nx,ka,kl,kc,rfl,T,a4,hx2⟩;have O:Hid (Below F.heap.size F w5):=(yj _ _).drew.trans T;have HX:Hid _:=a4;have b7:=zac l0 O.out;have b8:=zac l1 O.out;have b9:=zac u0 O.out;have c6:=zac u1 O.out;have c7:=zac y1 O.out;clear T a4 hx2)|(go_at_call 10;refine yf (D.out (F.alloc (.cells #[.bool false,.int .i64 0,.int .i64 0,.int .i64 0,.int .i64 0,.slice none 0 0,.int .i64 0,.bool false] 47)).drew (Z.out.trans ((zab F _).mono Z.out.size)).drew) ?_;rintro e w5 ⟨nx,ka,kl,kc,rfl,T,a4,hx2⟩;have O:Hid (Below F.heap.size F w5):=(zab F _).drew.trans (T.mono (by simp));have HX:Hid _:=a4;have b7:=zac l0 O.out;have b8:=zac l1 O.out;have b9:=zac u0 O.out;have c6:=zac u1 O.out;have c7:=zac y1 O.out;have X3:Hid (w5.heap[F.heap.size]?=some (.cells #[.bool false,.int .i64 0,.int .i64 0,.int .i64 0,.int .i64 0,.slice none 0 0,.int .i64 0,.bool false] 47 (0,0))):=zaU (W:=(F.alloc (.cells #[.bool false,.int .i64 0,.int .i64 0,.int .i64 0,.int .i64 0,.slice none 0 0,.int .i64 0,.bool false] 47)).drew) (heap_alloc_new F _) T;obtain⟨z0,z1,z2,z3,z4,z5,z6,z7,zf,zl⟩:=zew X3.out;clear T a4 hx2))
  ·go_wp2_with fail
   go_meet
   case rel =>
    have r:=zrV nx (.slice ka kl kc) 47 (yj F.heap.size F) O.out;exact⟨_,_,_,rfl,rfl,r.1,r.2.1,r.2.2.1,r.2.2.2,fun h=>by rw[HX.out h];exact⟨rfl,rfl⟩⟩
  ·go_wp2_with fail
   go_meet
   case rel =>
    have r:=zrW nx (.slice ka kl kc) (yj F.heap.size F) O.out X3.out;exact⟨_,_,_,rfl,rfl,r.1,r.2.1,r.2.2.1,r.2.2.2,fun h=>by rw[HX.out h];exact⟨rfl,rfl⟩⟩
 case rest =>
  obtain⟨b,m,pp,rfl,rfl,HB,hm,f7,d9,a7⟩:=hcut;have I2:Hid _:=II.out.below (Z.out.trans (HB.out.mono Z.out.size));by_cases hE:E=0
  ·subst hE;obtain⟨_,k,ek,hk,c8,_⟩:=zbz HE.out;subst ek;have hp:=(a7.out rfl).2;rw[yg] at hp;have HU:Hid (0=0->M=if (nd R.s k).p = -1 then 6 else 0):=fun _=>by rw[<- HM.out];unfold upE;rw[HE.out,yd rfl,yg]
   by_cases hn:(nd R.s k).p = -1
   ·obtain rfl:M=6:=by have h:=HU.out rfl;rw[yd hn] at h;exact h
    obtain rfl:pp = -1:=hp.trans hn;clear II D u0 u1 l0 l1 l2 l3 y0 y1 y2 y3 y4 hp hn
    go_wp2
    refine yq (v:=.tuple #[.int .i64 0,.int .i64 6]) (by simp[results,Tryz.results69,go_sem]) rfl ?_
    first|exact⟨⟨0,rfl⟩,I2.out.bel⟩|exact⟨0,rfl,I2.out.bel,fun hE=>absurd hE (by decide)⟩
   ·obtain rfl:M=0:=by have h:=HU.out rfl;rw[ya hn] at h;exact h
    obtain⟨f,ef,hf,_⟩:=wf.parent_place hk hn;obtain rfl:pp=(f:Int):=hp.trans ef;have a9:Hid (upH R.s (k:Int)=((f:Int),(nd R.s f).n)):=by show _=_;unfold upH;rw[yg,ef,yg]
    have b6:wc.cell? ⟨g,f*8+1,none⟩=some (.int .i64 (nd R.s f).n):=by
     obtain⟨b', o', e,c0,c1,_⟩:=I2.out.nds f hf;cases e;rw[yv] at c1;exact c1
    have e8:g<wc.heap.size:=ye _ _ b6;obtain⟨m0,m1,m2,m3,mf,ml⟩:=zaa I2.out.box;dsimp only at m0 m1;rw[HL.out] at m1;rw[a8.out] at m0;have e6:f<ns:=by rw[<- a8.out];exact hf
    have e7:(f:Int)<(ns:Int):=by omega
    have c9:¬ ((f:Int) = -1):=by omega
    have d6:((f:Int) == -1)=false:=by simp[c9]
    obtain⟨r0,r1⟩:=I2.out.hand (k:=r) (by rw[HL.out];omega);have rf:=I2.out.row.frozen;have e9:h<wc.heap.size:=ye _ _ r0;replace y2:=zac y2 HB.out;have HS:Hid _:=I2.out.setHand (k:=r) (by rw[HL.out];omega) ((f:Int),(nd R.s f).n) rfl;obtain⟨N1,b4⟩:∃ N1,(nd R.s f).n=N1:=⟨_,rfl⟩;rw[b4] at b6 HS a9;clear II D u0 u1 l0 l1 l2 l3 y0 y1 y3 y4 hp hn ef b4 hm a7 hk c8 hf HU
    go_wp2_with fail
    go_region
    go_wp2
    refine yq (v:=.tuple #[.int .i64 0,.int .i64 0]) (by simp[results,Tryz.results69,go_sem]) rfl ⟨0,rfl,HS.out.1.drew,?_⟩;rw[zhF rfl,a9.out];exact⟨rfl,_,HS.out.2.1,HS.out.2.2.below (yj _ _).drew⟩
  ·obtain rfl:M=E:=by rw[<- HM.out];unfold upE;rw[HE.out,ya hE]
   have hz:(M == 0)=false:=by simp[hE]
   clear II D u0 u1 l0 l1 l2 l3 y0 y1 y2 y3 y4
   go_wp2
   exact yq (v:=.tuple #[.int .i64 0,.int .i64 M]) (by simp[results,Tryz.results69,go_sem]) rfl ⟨0,rfl,I2.out.bel,fun h=>absurd h hE⟩
theorem zis(F:Nat)(eg:∀ args w,(callFunc F args).run Tryz.prog w=.ok (.enter F args) w)(T:Nat)(w:World)(hc:w.cell? ⟨T,0,none⟩=some (.func (.func F) #[] #[]))(R:Rl)(x:Ac)(hl:R.hs.length=16)(hb:¬ isH x.b):zit 111 #[.pointer (some ⟨T,0,none⟩)] w R x (bad 4):=fun d h g A V I=>by
 rw[(zjP 4).2.2];obtain⟨a0,a1,a2,a3,c0,c1,c2,c3⟩:=A;obtain⟨xk,xa,xb,xc,xn⟩:=x;have k0:=(I.bel.cell (ye _ _ hc)).trans hc;obtain⟨l0,l1,l2,l3,fz,lt⟩:=zaa I.box;dsimp only at l0 l1 l2 l3;have b5:d<V.heap.size:=lt;have b4:T<V.heap.size:=ye _ _ k0;have II:Hid (WI w R d h g _ V):=I;have DH:Hid (∀ W,Calls _ _ _ _ _):=fun W=>zcz ⟨a0,a1,a2,a3,c0,c1,c2,c3⟩ R xb W hl;dsimp only[rlV] at DH;show Calls Tryz.prog _ #[.pointer (some ⟨d,0,none⟩),.agg #[.int .i64 xk,.int .i64 xa,.int .i64 xb,.int .i64 xc,.int .i64 xn],.pointer (some ⟨T,0,none⟩)] V _;rw[decide_eq_false hb] at DH;clear hl I hc hb;generalize R.s.length=ns at *;generalize R.hs.length=nh at *;generalize R.i.length=ni at *;generalize R.t.length=nt at *
 go_enter Tryz.func111,Tryz.ntmps111
 go_upto_region 1 with fail
 obtain⟨D,J⟩:∃ D,V.alloc (.cells #[.int .i64 xk,.int .i64 xa,.int .i64 xb,.int .i64 xc,.int .i64 xn] 41)=D:=⟨_,rfl⟩;have O:Hid (Below V.heap.size V D):=by rw[<- J];exact zab _ _
 have y0:D.cell? ⟨V.heap.size,0,none⟩=some (.int .i64 xk):=by rw[<- J];exact zad _ _ _ 0 rfl
 have y1:D.cell? ⟨V.heap.size,1,none⟩=some (.int .i64 xa):=by rw[<- J];exact zad _ _ _ 1 rfl
 have y2:D.cell? ⟨V.heap.size,2,none⟩=some (.int .i64 xb):=by rw[<- J];exact zad _ _ _ 2 rfl
 have y3:D.cell? ⟨V.heap.size,3,none⟩=some (.int .i64 xc):=by rw[<- J];exact zad _ _ _ 3 rfl
 have y4:D.cell? ⟨V.heap.size,4,none⟩=some (.int .i64 xn):=by rw[<- J];exact zad _ _ _ 4 rfl
 have sV:V.heap.size<D.heap.size:=ye _ _ y0;rw[J];clear J;replace l0:=zac l0 O.out;replace l1:=zac l1 O.out;replace l2:=zac l2 O.out;replace l3:=zac l3 O.out;replace k0:=zac k0 O.out;have n0:¬ D.heap.size=d:=by omega
 have o0:¬ d=D.heap.size:=by omega
 have n2:¬ D.heap.size=T:=by omega
 have o2:¬ T=D.heap.size:=by omega
 have n3:¬ D.heap.size=V.heap.size:=by omega
 have o3:¬ V.heap.size=D.heap.size:=by omega
 have b6:d<D.heap.size:=by omega
 have a4:T<D.heap.size:=by omega
 clear fz lt
 go_region_held3 (fun M=>M.cell? ⟨d,0,none⟩=some (.slice a0 ns c0)/\M.cell? ⟨d,1,none⟩=some (.slice a1 nh c1)/\M.cell? ⟨d,2,none⟩=some (.slice a2 ni c2)/\M.cell? ⟨d,3,none⟩=some (.slice a3 nt c3)/\M.cell? ⟨V.heap.size,2,none⟩=some (.int .i64 xb)) (go_keep) (first|(go_at_call 22;refine yf (DH.out D.drew) ?_;rintro e w3 ⟨rfl,Z⟩;have U:Hid (Below D.heap.size D w3):=(yj _ _).drew.trans Z;have a5:=zac l0 U.out;have a6:=zac l1 U.out;have a7:=zac l2 U.out;have a8:=zac l3 U.out;have a9:=zac y2 U.out;clear Z))
 have I2:Hid _:=II.out.below (O.out.trans (U.out.mono O.out.size))
 go_wp2
 exact yq (v:=.tuple #[.int .i64 0,.int .i64 4]) (by simp[results,Tryz.results111,go_sem]) rfl ⟨0,rfl,I2.out.bel,fun hE=>absurd hE (by decide)⟩
theorem zgL(F:Nat)(eg:∀ args w,(callFunc F args).run Tryz.prog w=.ok (.enter F args) w)(cb:Nat)(w:World)(hc:w.cell? ⟨cb,0,none⟩=some (.func (.func F) #[] #[]))(R:Rl)(x:Ac)(hl:R.hs.length=16)(hb:isH x.b)(q:Rs)(hF:zit F #[] w R x q):zit 111 #[.pointer (some ⟨cb,0,none⟩)] w R x q:=fun d h g A V I=>by
 have D:Hid (∀ U,WI w R d h g A U->Calls Tryz.prog F #[.pointer (some ⟨d,0,none⟩),acV x] U fun e U=>∃ o:Int,e=.returned (.tuple #[.int .i64 o,.int .i64 q.e])/\Below w.heap.size w U/\(q.e=0->o=q.o/\∃ B:RA,U.heap[d]?=some (bxR B q.r)/\RlF w.heap.size d U B q.r)):=fun U I' => hF d h g A U I';clear hF;dsimp only[acV] at D;obtain⟨a0,a1,a2,a3,c0,c1,c2,c3⟩:=A;obtain⟨xk,xa,xb,xc,xn⟩:=x;have k0:=(I.bel.cell (ye _ _ hc)).trans hc;obtain⟨l0,l1,l2,l3,fz,lt⟩:=zaa I.box;dsimp only at l0 l1 l2 l3;have c6:d<V.heap.size:=lt;have b9:cb<V.heap.size:=ye _ _ k0;have II:Hid (WI w R d h g _ V):=I;have DH:Hid (∀ W,Calls _ _ _ _ _):=fun W=>zcz ⟨a0,a1,a2,a3,c0,c1,c2,c3⟩ R xb W hl;dsimp only[rlV] at DH;show Calls Tryz.prog _ #[.pointer (some ⟨d,0,none⟩),.agg #[.int .i64 xk,.int .i64 xa,.int .i64 xb,.int .i64 xc,.int .i64 xn],.pointer (some ⟨cb,0,none⟩)] V _;rw[decide_eq_true hb] at DH;clear hl I hc hb;generalize R.s.length=ns at *;generalize R.hs.length=nh at *;generalize R.i.length=ni at *;generalize R.t.length=nt at *
 go_enter Tryz.func111,Tryz.ntmps111
 go_upto_region 1 with fail
 obtain⟨J,M⟩:∃ J,V.alloc (.cells #[.int .i64 xk,.int .i64 xa,.int .i64 xb,.int .i64 xc,.int .i64 xn] 41)=J:=⟨_,rfl⟩;have Z:Hid (Below V.heap.size V J):=by rw[<- M];exact zab _ _
 have y0:J.cell? ⟨V.heap.size,0,none⟩=some (.int .i64 xk):=by rw[<- M];exact zad _ _ _ 0 rfl
 have y1:J.cell? ⟨V.heap.size,1,none⟩=some (.int .i64 xa):=by rw[<- M];exact zad _ _ _ 1 rfl
 have y2:J.cell? ⟨V.heap.size,2,none⟩=some (.int .i64 xb):=by rw[<- M];exact zad _ _ _ 2 rfl
 have y3:J.cell? ⟨V.heap.size,3,none⟩=some (.int .i64 xc):=by rw[<- M];exact zad _ _ _ 3 rfl
 have y4:J.cell? ⟨V.heap.size,4,none⟩=some (.int .i64 xn):=by rw[<- M];exact zad _ _ _ 4 rfl
 have sV:V.heap.size<J.heap.size:=ye _ _ y0;rw[M];clear M;replace l0:=zac l0 Z.out;replace l1:=zac l1 Z.out;replace l2:=zac l2 Z.out;replace l3:=zac l3 Z.out;replace k0:=zac k0 Z.out;have n0:¬ J.heap.size=d:=by omega
 have o0:¬ d=J.heap.size:=by omega
 have n2:¬ J.heap.size=cb:=by omega
 have o2:¬ cb=J.heap.size:=by omega
 have n3:¬ J.heap.size=V.heap.size:=by omega
 have o3:¬ V.heap.size=J.heap.size:=by omega
 have c7:d<J.heap.size:=by omega
 have b8:cb<J.heap.size:=by omega
 clear fz lt
 go_region_held3 (fun T=>T.cell? ⟨d,0,none⟩=some (.slice a0 ns c0)/\T.cell? ⟨d,1,none⟩=some (.slice a1 nh c1)/\T.cell? ⟨d,2,none⟩=some (.slice a2 ni c2)/\T.cell? ⟨d,3,none⟩=some (.slice a3 nt c3)/\T.cell? ⟨V.heap.size,2,none⟩=some (.int .i64 xb)) (go_keep) (first|(go_at_call 22;refine yf (DH.out J.drew) ?_;rintro e w3 ⟨rfl,a4⟩;have O:Hid (Below J.heap.size J w3):=(yj _ _).drew.trans a4;have a9:=zac l0 O.out;have b4:=zac l1 O.out;have b5:=zac l2 O.out;have b6:=zac l3 O.out;have b7:=zac y2 O.out;clear a4))
 have I2:Hid _:=II.out.below (Z.out.trans (O.out.mono Z.out.size));replace k0:=zac k0 O.out;replace y0:=zac y0 O.out;replace y1:=zac y1 O.out;replace y2:=zac y2 O.out;replace y3:=zac y3 O.out;replace y4:=zac y4 O.out;clear a9 b4 b5 b6 b7 l0 l1 l2 l3
 go_wp2_with fail
 refine yf (D.out _ I2.out) ?_;rintro e V5 ⟨o,rfl,a5,a6⟩;have a7:Hid _:=a5;have a8:Hid _:=a6;clear a5 a6 D II I2
 go_wp2
 exact yq (v:=.tuple #[.int .i64 o,.int .i64 q.e]) (by simp[results,Tryz.results111,go_sem]) rfl ⟨o,rfl,a7.out,a8.out⟩
theorem zfN(F:Nat)(W:World):Calls Tryz.prog 56 #[.func (.func F) #[] #[]] W fun e w' => e=.returned (.func (.func 102) #[] #[.pointer (some ⟨W.heap.size,0,none⟩)])/\Below W.heap.size W w' /\ w'.cell? ⟨W.heap.size,0,none⟩=some (.func (.func F) #[] #[]):=by
 go_enter Tryz.func56,Tryz.ntmps56
 go_wp2
 go_ret;exact⟨rfl,zab _ _,zad _ _ _ 0 rfl⟩
theorem zho(F:Nat)(W:World):Calls Tryz.prog 60 #[.func (.func F) #[] #[]] W fun e w' => e=.returned (.func (.func 107) #[] #[.pointer (some ⟨W.heap.size,0,none⟩)])/\Below W.heap.size W w' /\ w'.cell? ⟨W.heap.size,0,none⟩=some (.func (.func F) #[] #[]):=by
 go_enter Tryz.func60,Tryz.ntmps60
 go_wp2
 go_ret;exact⟨rfl,zab _ _,zad _ _ _ 0 rfl⟩
theorem zdx(F:Nat)(W:World):Calls Tryz.prog 63 #[.func (.func F) #[] #[]] W fun e w' => e=.returned (.func (.func 108) #[] #[.pointer (some ⟨W.heap.size,0,none⟩)])/\Below W.heap.size W w' /\ w'.cell? ⟨W.heap.size,0,none⟩=some (.func (.func F) #[] #[]):=by
 go_enter Tryz.func63,Tryz.ntmps63
 go_wp2
 go_ret;exact⟨rfl,zab _ _,zad _ _ _ 0 rfl⟩
theorem zcW(F:Nat)(W:World):Calls Tryz.prog 66 #[.func (.func F) #[] #[]] W fun e w' => e=.returned (.func (.func 111) #[] #[.pointer (some ⟨W.heap.size,0,none⟩)])/\Below W.heap.size W w' /\ w'.cell? ⟨W.heap.size,0,none⟩=some (.func (.func F) #[] #[]):=by
 go_enter Tryz.func66,Tryz.ntmps66
 go_wp2
 go_ret;exact⟨rfl,zab _ _,zad _ _ _ 0 rfl⟩
end Go.Proofs.YtgjfmepbphfjoaaGreat
