/-
  x
-/
import Derived.Test.YtcbcpomacdngmaaGreatM32
namespace Go.Proofs.YtcbcpomacdngmaaGreat
set_option maxRecDepth 100000
set_option maxHeartbeats 4000000
set_option linter.unusedVariables false
open Go.RowKit Go.ChangeShapes Go.WideShapes
theorem zdk{W:World}{b t:Nat}{D v1 v2 E F I J M:Value}(h:W.heap[b]?=some (.cells #[D,v1,v2,E,F,I,J,M] t (0,0))):W.cell? ⟨b,0,none⟩=some D/\W.cell? ⟨b,1,none⟩=some v1/\W.cell? ⟨b,2,none⟩=some v2/\W.cell? ⟨b,3,none⟩=some E/\W.cell? ⟨b,4,none⟩=some F/\W.cell? ⟨b,5,none⟩=some I/\W.cell? ⟨b,6,none⟩=some J/\W.cell? ⟨b,7,none⟩=some M/\(∀ o,W.frozen? ⟨b,o,none⟩=false)/\b<W.heap.size :=
 ⟨by simp[World.cell?,h],by simp[World.cell?,h],by simp[World.cell?,h],by simp[World.cell?,h],by simp[World.cell?,h],by simp[World.cell?,h],by simp[World.cell?,h],by simp[World.cell?,h],fun o=>by simp[World.frozen?,h],zau h⟩
theorem zuo{V D w3:World}(x:Nd)(E:Value)(t:Nat)(F:Below V.heap.size V D)(I:Below D.heap.size D w3) :
  Hid (Below V.heap.size V (w3.alloc (.cells #[.bool x.u,.int .i64 x.n,.int .i64 x.t,.int .i64 x.m,.int .i64 x.p,E,.int .i64 x.h,.bool x.c] t)))/\(w3.alloc (.cells #[.bool x.u,.int .i64 x.n,.int .i64 x.t,.int .i64 x.m,.int .i64 x.p,E,.int .i64 x.h,.bool x.c] t)).cell? ⟨w3.heap.size,3,none⟩=some (.int .i64 x.m)/\(w3.alloc (.cells #[.bool x.u,.int .i64 x.n,.int .i64 x.t,.int .i64 x.m,.int .i64 x.p,E,.int .i64 x.h,.bool x.c] t)).cell? ⟨w3.heap.size,4,none⟩=some (.int .i64 x.p)/\V.heap.size<=w3.heap.size:=by
 have b:=F.trans (I.mono F.size);exact⟨b.trans ((zaa _ _).mono b.size),zad _ _ _ 3 rfl,zad _ _ _ 4 rfl,b.size⟩
theorem zvh{W:World}{b t:Nat}{z0 z1 M J I F E D u0 u1 u2 u3 u4 u5 u6 u7:Value}(h:W.heap[b]?=some (.cells #[z0,z1,M,J,I,F,E,D] t (0,0))):((((((((W.setCell ⟨b,0,none⟩ u0).setCell ⟨b,1,none⟩ u1).setCell ⟨b,2,none⟩ u2).setCell ⟨b,3,none⟩ u3).setCell ⟨b,4,none⟩ u4).setCell ⟨b,5,none⟩ u5).setCell ⟨b,6,none⟩ u6).setCell ⟨b,7,none⟩ u7).heap[b]?=some (.cells #[u0,u1,u2,u3,u4,u5,u6,u7] t (0,0)):=by
 have k0:(W.setCell ⟨b,0,none⟩ u0).heap[b]?=some (.cells #[u0,z1,M,J,I,F,E,D] t (0,0)):=zaG (i:=0) h;generalize W.setCell ⟨b,0,none⟩ u0=W0 at k0 |-;have k1:(W0.setCell ⟨b,1,none⟩ u1).heap[b]?=some (.cells #[u0,u1,M,J,I,F,E,D] t (0,0)):=zaG (i:=1) k0;generalize W0.setCell ⟨b,1,none⟩ u1=O at k1 |-;have k2:(O.setCell ⟨b,2,none⟩ u2).heap[b]?=some (.cells #[u0,u1,u2,J,I,F,E,D] t (0,0)):=zaG (i:=2) k1;generalize O.setCell ⟨b,2,none⟩ u2=T at k2 |-;have k3:(T.setCell ⟨b,3,none⟩ u3).heap[b]?=some (.cells #[u0,u1,u2,u3,I,F,E,D] t (0,0)):=zaG (i:=3) k2;generalize T.setCell ⟨b,3,none⟩ u3=U at k3 |-;have k4:(U.setCell ⟨b,4,none⟩ u4).heap[b]?=some (.cells #[u0,u1,u2,u3,u4,F,E,D] t (0,0)):=zaG (i:=4) k3;generalize U.setCell ⟨b,4,none⟩ u4=Z at k4 |-;have k5:(Z.setCell ⟨b,5,none⟩ u5).heap[b]?=some (.cells #[u0,u1,u2,u3,u4,u5,E,D] t (0,0)):=zaG (i:=5) k4;generalize Z.setCell ⟨b,5,none⟩ u5=W5 at k5 |-;have k6:(W5.setCell ⟨b,6,none⟩ u6).heap[b]?=some (.cells #[u0,u1,u2,u3,u4,u5,u6,D] t (0,0)):=zaG (i:=6) k5;generalize W5.setCell ⟨b,6,none⟩ u6=W6 at k6 |-;have k7:(W6.setCell ⟨b,7,none⟩ u7).heap[b]?=some (.cells #[u0,u1,u2,u3,u4,u5,u6,u7] t (0,0)):=zaG (i:=7) k6;exact k7
theorem zup{V D w3:World}{t:Nat}{M O T U Z z5 z6 z7:Value}(x:Nd)(E:Value)(F:Below V.heap.size V D)(I:Below D.heap.size D w3)(J:w3.heap[D.heap.size]?=some (.cells #[M,O,T,U,Z,z5,z6,z7] t (0,0))) :
  Hid (Below V.heap.size V ((((((((w3.setCell ⟨D.heap.size,0,none⟩ (.bool x.u)).setCell ⟨D.heap.size,1,none⟩ (.int .i64 x.n)).setCell ⟨D.heap.size,2,none⟩ (.int .i64 x.t)).setCell ⟨D.heap.size,3,none⟩ (.int .i64 x.m)).setCell ⟨D.heap.size,4,none⟩ (.int .i64 x.p)).setCell ⟨D.heap.size,5,none⟩ E).setCell ⟨D.heap.size,6,none⟩ (.int .i64 x.h)).setCell ⟨D.heap.size,7,none⟩ (.bool x.c)))/\((((((((w3.setCell ⟨D.heap.size,0,none⟩ (.bool x.u)).setCell ⟨D.heap.size,1,none⟩ (.int .i64 x.n)).setCell ⟨D.heap.size,2,none⟩ (.int .i64 x.t)).setCell ⟨D.heap.size,3,none⟩ (.int .i64 x.m)).setCell ⟨D.heap.size,4,none⟩ (.int .i64 x.p)).setCell ⟨D.heap.size,5,none⟩ E).setCell ⟨D.heap.size,6,none⟩ (.int .i64 x.h)).setCell ⟨D.heap.size,7,none⟩ (.bool x.c)).cell? ⟨D.heap.size,3,none⟩=some (.int .i64 x.m)/\((((((((w3.setCell ⟨D.heap.size,0,none⟩ (.bool x.u)).setCell ⟨D.heap.size,1,none⟩ (.int .i64 x.n)).setCell ⟨D.heap.size,2,none⟩ (.int .i64 x.t)).setCell ⟨D.heap.size,3,none⟩ (.int .i64 x.m)).setCell ⟨D.heap.size,4,none⟩ (.int .i64 x.p)).setCell ⟨D.heap.size,5,none⟩ E).setCell ⟨D.heap.size,6,none⟩ (.int .i64 x.h)).setCell ⟨D.heap.size,7,none⟩ (.bool x.c)).cell? ⟨D.heap.size,4,none⟩=some (.int .i64 x.p)/\V.heap.size<=D.heap.size:=by
 have b:=F.trans (I.mono F.size);have s:=F.size;have k:=zvh (u0:=.bool x.u) (u1:=.int .i64 x.n) (u2:=.int .i64 x.t) (u3:=.int .i64 x.m) (u4:=.int .i64 x.p) (u5:=E) (u6:=.int .i64 x.h) (u7:=.bool x.c) J;obtain⟨_,_,_,c3,c4,_⟩:=zdk k;exact⟨(((((((b.setCell s _).setCell s _).setCell s _).setCell s _).setCell s _).setCell s _).setCell s _).setCell s _,c3,c4,s⟩
theorem zns(w:World)(R:Rl)(x:Ac)(wf:WF R.s)(hl:R.hs.length=16)(ha:isH x.a):zme 169 #[] w R x (zzf R (hd R x.a)):=fun d h g A V I=>by
 unfold zzf;rw[zlg];obtain⟨a0,a1,a2,a3,c0,c1,c2,c3⟩:=A;obtain rfl:a0=some ⟨g,0,none⟩:=I.a0;obtain rfl:a1=some ⟨h,0,none⟩:=I.a1;obtain⟨xk,xa,xb,xc,xn⟩:=x;obtain⟨p,hp,b3⟩:=zmh ha;dsimp only at hp;subst hp;obtain⟨u0,u1⟩:=I.hand (k:=p) (by omega);have II:Hid (WI w R d h g _ V):=I;have D:Hid (∀ W,Below V.heap.size V W->yL 14 #[.agg #[.slice (some ⟨g,0,none⟩) R.s.length c0],.agg #[.int .i64 (hd R (p:Int)).1,.int .i64 (hd R (p:Int)).2]] W fun e w' => ∃ (x:Nd) (ka:Option Addr) (kl kc:Nat),e=.returned (.tuple #[.agg #[.bool x.u,.int .i64 x.n,.int .i64 x.t,.int .i64 x.m,.int .i64 x.p,.slice ka kl kc,.int .i64 x.h,.bool x.c],.int .i64 (zaC R.s (hd R (p:Int)).1 (hd R (p:Int)).2)])/\Below W.heap.size W w' /\(zaC R.s (hd R (p:Int)).1 (hd R (p:Int)).2=0->x=nd R.s (hd R (p:Int)).1.toNat)/\(zaC R.s (hd R (p:Int)).1 (hd R (p:Int)).2≠0->x=zhj)):=fun W hW=>zeC R.s _ _ _ c0 W wf (I.nds.below hW);obtain⟨l0,l1,l2,l3,fz,lt⟩:=zai I.box;dsimp only at l0 l1 l2 l3;rw[hl] at l1;have b6:d<V.heap.size:=lt;have b7:h<V.heap.size:=yd _ _ u0;have b8:(p:Int)<16:=by omega
 show yL _ #[.pointer (some ⟨d,0,none⟩),.agg #[.int .i64 xk,.int .i64 p,.int .i64 xb,.int .i64 xc,.int .i64 xn]] V _;obtain⟨ns,a6⟩:∃ n,R.s.length=n:=⟨_,rfl⟩;have b4:Hid (R.s.length=ns):=a6;clear ha hl;generalize hd R (p:Int)=hh at *;obtain⟨P,U⟩:=hh;dsimp only at u0 u1 D |-;obtain⟨E,hE⟩:∃ E,zaC R.s P U=E:=⟨_,rfl⟩;have HE:Hid (zaC R.s P U=E):=hE;rw[hE] at D |-;clear hE;rw[a6] at D l0;clear a6 I
 go_enter Tryz.func169,Tryz.ntmps169
 go_upto_region 1 with fail
 obtain⟨F,J⟩:∃ F,V.alloc (.cells #[.int .i64 xk,.int .i64 p,.int .i64 xb,.int .i64 xc,.int .i64 xn] 36)=F:=⟨_,rfl⟩;have T:Hid (Below V.heap.size V F):=by rw[<- J];exact zaa _ _
 have y0:F.cell? ⟨V.heap.size,0,none⟩=some (.int .i64 xk):=by rw[<- J];exact zad _ _ _ 0 rfl
 have y1:F.cell? ⟨V.heap.size,1,none⟩=some (.int .i64 p):=by rw[<- J];exact zad _ _ _ 1 rfl
 have y2:F.cell? ⟨V.heap.size,2,none⟩=some (.int .i64 xb):=by rw[<- J];exact zad _ _ _ 2 rfl
 have y3:F.cell? ⟨V.heap.size,3,none⟩=some (.int .i64 xc):=by rw[<- J];exact zad _ _ _ 3 rfl
 have y4:F.cell? ⟨V.heap.size,4,none⟩=some (.int .i64 xn):=by rw[<- J];exact zad _ _ _ 4 rfl
 have sV:V.heap.size<F.heap.size:=yd _ _ y0;rw[J];clear J;replace u0:=zab u0 T.out;replace u1:=zab u1 T.out;replace l0:=zab l0 T.out;replace l1:=zab l1 T.out;replace l2:=zab l2 T.out;replace l3:=zab l3 T.out;have n0:¬ F.heap.size=d:=by omega
 have o0:¬ d=F.heap.size:=by omega
 have n1:¬ F.heap.size=h:=by omega
 have o1:¬ h=F.heap.size:=by omega
 have n2:¬ F.heap.size=V.heap.size:=by omega
 have o2:¬ V.heap.size=F.heap.size:=by omega
 have c6:d<F.heap.size:=by omega
 have c7:h<F.heap.size:=by omega
 clear fz lt
 go_cut [6,7] (fun s6 s7 wx=>∃ (b:Nat) (m pp:Int),s6=.pointer (some ⟨b,0,none⟩)/\s7=.int .i64 E/\Hid (Below F.heap.size F wx)/\wx.cell? ⟨b,3,none⟩=some (.int .i64 m)/\wx.cell? ⟨b,4,none⟩=some (.int .i64 pp)/\F.heap.size<=b/\Hid (E=0->m=(nd R.s P.toNat).m/\pp=(nd R.s P.toNat).p))
 case first =>
  go_region_held3 (fun a5=>a5.cell? ⟨d,0,none⟩=some (.slice (some ⟨g,0,none⟩) ns c0)/\a5.cell? ⟨d,1,none⟩=some (.slice (some ⟨h,0,none⟩) 16 c1)/\a5.cell? ⟨h,p*2,none⟩=some (.int .i64 P)/\a5.cell? ⟨h,p*2+1,none⟩=some (.int .i64 U)/\a5.cell? ⟨V.heap.size,1,none⟩=some (.int .i64 p)) (go_keep) (first|(go_at_call 14;refine ye (D.out F.drew T.out.drew) ?_;rintro e w5 ⟨nx,ka,kl,kc,rfl,O,Z,a7⟩;have M:Hid (Below F.heap.size F w5):=(yk _ _).drew.trans O;have HX:Hid _:=Z;have a8:=zab l0 M.out;have a9:=zab l1 M.out;have b0:=zab u0 M.out;have b1:=zab u1 M.out;have b2:=zab y1 M.out;clear O Z a7)|(go_at_call 14;refine ye (D.out (F.alloc (.cells #[.bool false,.int .i64 0,.int .i64 0,.int .i64 0,.int .i64 0,.slice none 0 0,.int .i64 0,.bool false] 57)).drew (T.out.trans ((zaa F _).mono T.out.size)).drew) ?_;rintro e w5 ⟨nx,ka,kl,kc,rfl,O,Z,a7⟩;have M:Hid (Below F.heap.size F w5):=(zaa F _).drew.trans (O.mono (by simp));have HX:Hid _:=Z;have a8:=zab l0 M.out;have a9:=zab l1 M.out;have b0:=zab u0 M.out;have b1:=zab u1 M.out;have b2:=zab y1 M.out;have X3:Hid (w5.heap[F.heap.size]?=some (.cells #[.bool false,.int .i64 0,.int .i64 0,.int .i64 0,.int .i64 0,.slice none 0 0,.int .i64 0,.bool false] 57 (0,0))):=zav (W:=(F.alloc (.cells #[.bool false,.int .i64 0,.int .i64 0,.int .i64 0,.int .i64 0,.slice none 0 0,.int .i64 0,.bool false] 57)).drew) (yK F _) O;obtain⟨z0,z1,z2,z3,z4,z5,z6,z7,zf,zl⟩:=zdk X3.out;clear O Z a7))
  ·go_wp2_with fail
   go_meet
   case rel =>
    have r:=zuo nx (.slice ka kl kc) 57 (yk F.heap.size F) M.out;exact⟨_,_,_,rfl,rfl,r.1,r.2.1,r.2.2.1,r.2.2.2,fun h=>by rw[HX.out h];exact⟨rfl,rfl⟩⟩
  ·go_wp2_with fail
   go_meet
   case rel =>
    have r:=zup nx (.slice ka kl kc) (yk F.heap.size F) M.out X3.out;exact⟨_,_,_,rfl,rfl,r.1,r.2.1,r.2.2.1,r.2.2.2,fun h=>by rw[HX.out h];exact⟨rfl,rfl⟩⟩
 case rest =>
  obtain⟨b,m,pp,rfl,rfl,HB,hm,b9,b5,HM⟩:=hcut;have I2:Hid _:=II.out.below (T.out.trans (HB.out.mono T.out.size));clear II D u0 u1 l0 l1 l2 l3 y0 y1 y2 y3 y4
  go_wp2
  refine yv (v:=.tuple #[.int .i64 m,.int .i64 E]) (by simp[results,Tryz.results169,go_sem]) rfl ⟨m,rfl,I2.out.bel,fun hE=>?_⟩;rw[zlf hE];exact⟨(HM.out hE).1,_,I2.out.box,I2.out.rl⟩
theorem zjI(F:Nat)(eg:∀ args w,(callFunc F args).run Tryz.prog w=.ok (.enter F args) w)(cb:Nat)(w:World)(hc:w.cell? ⟨cb,0,none⟩=some (.func (.func F) #[] #[]))(R:Rl)(x:Ac)(hl:R.hs.length=16)(ha:isH x.a)(E:Int)(N:Nat)
  (hF:∀ (a:Option Addr) (c:Nat) (W:World),zah W a R.s->yL F #[.agg #[.slice a R.s.length c],hdV (hd R x.a),acV x] W fun e w' => ∃ a' c' n,e=.returned (.tuple #[.slice a' n c', .int .i64 E])/\Below W.heap.size W w' /\(E=0->n=N)) :
  zme 188 #[.pointer (some ⟨cb,0,none⟩)] w R x (ans E R N):=fun d h g A V I=>by
 rw[zlg];obtain⟨a0,a1,a2,a3,c0,c1,c2,c3⟩:=A;obtain rfl:a0=some ⟨g,0,none⟩:=I.a0;obtain rfl:a1=some ⟨h,0,none⟩:=I.a1;obtain⟨xk,xa,xb,xc,xn⟩:=x;obtain⟨p,hp,b8⟩:=zmh ha;dsimp only at hp;subst hp;obtain⟨u0,u1⟩:=I.hand (k:=p) (by omega);have II:Hid (WI w R d h g _ V):=I;have D:Hid (∀ W,Below V.heap.size V W->yL F #[.agg #[.slice (some ⟨g,0,none⟩) R.s.length c0],.agg #[.int .i64 (hd R (p:Int)).1,.int .i64 (hd R (p:Int)).2],.agg #[.int .i64 xk,.int .i64 p,.int .i64 xb,.int .i64 xc,.int .i64 xn]] W fun e w' => ∃ a' c' n,e=.returned (.tuple #[.slice a' n c', .int .i64 E])/\Below W.heap.size W w' /\(E=0->n=N)):=fun W hW=>hF (some ⟨g,0,none⟩) c0 W (I.nds.below hW);clear hF;have k0:=(I.bel.cell (yd _ _ hc)).trans hc;obtain⟨l0,l1,l2,l3,fz,lt⟩:=zai I.box;dsimp only at l0 l1 l2 l3;rw[hl] at l1;have c8:d<V.heap.size:=lt;have c9:h<V.heap.size:=yd _ _ u0;have c7:cb<V.heap.size:=yd _ _ k0;have d4:(p:Int)<16:=by omega
 show yL _ #[.pointer (some ⟨d,0,none⟩),.agg #[.int .i64 xk,.int .i64 p,.int .i64 xb,.int .i64 xc,.int .i64 xn],.pointer (some ⟨cb,0,none⟩)] V _;obtain⟨ns,a5⟩:∃ n,R.s.length=n:=⟨_,rfl⟩;have c6:Hid (R.s.length=ns):=a5;clear ha hl;generalize hd R (p:Int)=hh at *;obtain⟨P,U⟩:=hh;dsimp only at u0 u1 D |-;rw[a5] at D l0;clear a5 I hc
 go_enter Tryz.func188,Tryz.ntmps188
 go_upto_region 1 with fail
 obtain⟨J,O⟩:∃ J,V.alloc (.cells #[.int .i64 xk,.int .i64 p,.int .i64 xb,.int .i64 xc,.int .i64 xn] 36)=J:=⟨_,rfl⟩;have Z:Hid (Below V.heap.size V J):=by rw[<- O];exact zaa _ _
 have y0:J.cell? ⟨V.heap.size,0,none⟩=some (.int .i64 xk):=by rw[<- O];exact zad _ _ _ 0 rfl
 have y1:J.cell? ⟨V.heap.size,1,none⟩=some (.int .i64 p):=by rw[<- O];exact zad _ _ _ 1 rfl
 have y2:J.cell? ⟨V.heap.size,2,none⟩=some (.int .i64 xb):=by rw[<- O];exact zad _ _ _ 2 rfl
 have y3:J.cell? ⟨V.heap.size,3,none⟩=some (.int .i64 xc):=by rw[<- O];exact zad _ _ _ 3 rfl
 have y4:J.cell? ⟨V.heap.size,4,none⟩=some (.int .i64 xn):=by rw[<- O];exact zad _ _ _ 4 rfl
 have sV:V.heap.size<J.heap.size:=yd _ _ y0;rw[O];clear O;replace u0:=zab u0 Z.out;replace u1:=zab u1 Z.out;replace l0:=zab l0 Z.out;replace l1:=zab l1 Z.out;replace l2:=zab l2 Z.out;replace l3:=zab l3 Z.out;replace k0:=zab k0 Z.out;have n0:¬ J.heap.size=d:=by omega
 have o0:¬ d=J.heap.size:=by omega
 have n1:¬ J.heap.size=h:=by omega
 have o1:¬ h=J.heap.size:=by omega
 have n2:¬ J.heap.size=cb:=by omega
 have o2:¬ cb=J.heap.size:=by omega
 have n3:¬ J.heap.size=V.heap.size:=by omega
 have o3:¬ V.heap.size=J.heap.size:=by omega
 have d5:d<J.heap.size:=by omega
 have d6:h<J.heap.size:=by omega
 have b9:cb<J.heap.size:=by omega
 clear fz lt
 go_region_held3 (fun M=>M.cell? ⟨cb,0,none⟩=some (.func (.func F) #[] #[])/\M.cell? ⟨d,0,none⟩=some (.slice (some ⟨g,0,none⟩) ns c0)/\M.cell? ⟨d,1,none⟩=some (.slice (some ⟨h,0,none⟩) 16 c1)/\M.cell? ⟨h,p*2,none⟩=some (.int .i64 P)/\M.cell? ⟨h,p*2+1,none⟩=some (.int .i64 U)/\M.cell? ⟨V.heap.size,0,none⟩=some (.int .i64 xk)/\M.cell? ⟨V.heap.size,1,none⟩=some (.int .i64 p)/\M.cell? ⟨V.heap.size,2,none⟩=some (.int .i64 xb)/\M.cell? ⟨V.heap.size,3,none⟩=some (.int .i64 xc)/\M.cell? ⟨V.heap.size,4,none⟩=some (.int .i64 xn)) (go_keep) (first|(refine ye (D.out J.drew Z.out.drew) ?_;rintro e w3 ⟨a', c', n,rfl,a6,a7⟩;have T:Hid (Below J.heap.size J w3):=(yk _ _).drew.trans a6;have N3:Hid _:=a7;have a8:=zab k0 T.out;have a9:=zab l0 T.out;have b0:=zab l1 T.out;have b1:=zab u0 T.out;have b2:=zab u1 T.out;have b3:=zab y0 T.out;have b4:=zab y1 T.out;have b5:=zab y2 T.out;have b6:=zab y3 T.out;have b7:=zab y4 T.out;clear a6 a7))
 have I2:Hid _:=II.out.below (Z.out.trans (T.out.mono Z.out.size));clear II D u0 u1 l0 l1 l2 l3 k0 y0 y1 y2 y3 y4 a8 a9 b0 b1 b2 b3 b4 b5 b6 b7
 go_wp2
 refine yv (v:=.tuple #[.int .i64 n,.int .i64 E]) (by simp[results,Tryz.results188,go_sem]) rfl ⟨n,rfl,I2.out.bel,fun hE=>?_⟩;rw[zlf hE];exact⟨by rw[N3.out hE],_,I2.out.box,I2.out.rl⟩
theorem zAd(w:World)(R:Rl)(x:Ac)(wf:WF R.s)(hl:R.hs.length=16)(ha:isH x.a)(b3:isH x.b):zme 179 #[] w R x (aUp R x.b (hd R x.a)):=fun d h g A V I=>by
 unfold aUp;rw[zlg];obtain⟨a0,a1,a2,a3,c0,c1,c2,c3⟩:=A;obtain rfl:a0=some ⟨g,0,none⟩:=I.a0;obtain rfl:a1=some ⟨h,0,none⟩:=I.a1;obtain⟨xk,xa,xb,xc,xn⟩:=x;obtain⟨p,hp,c9⟩:=zmh ha;dsimp only at hp;subst hp;obtain⟨u0,u1⟩:=I.hand (k:=p) (by omega);obtain⟨r,hr,d4⟩:=zmh b3;dsimp only at hr;subst hr;obtain⟨v0,v1⟩:=I.hand (k:=r) (by omega);have II:Hid (WI w R d h g _ V):=I;have D:Hid (∀ W,Below V.heap.size V W->yL 14 #[.agg #[.slice (some ⟨g,0,none⟩) R.s.length c0],.agg #[.int .i64 (hd R (p:Int)).1,.int .i64 (hd R (p:Int)).2]] W fun e w' => ∃ (x:Nd) (ka:Option Addr) (kl kc:Nat),e=.returned (.tuple #[.agg #[.bool x.u,.int .i64 x.n,.int .i64 x.t,.int .i64 x.m,.int .i64 x.p,.slice ka kl kc,.int .i64 x.h,.bool x.c],.int .i64 (zaC R.s (hd R (p:Int)).1 (hd R (p:Int)).2)])/\Below W.heap.size W w' /\(zaC R.s (hd R (p:Int)).1 (hd R (p:Int)).2=0->x=nd R.s (hd R (p:Int)).1.toNat)/\(zaC R.s (hd R (p:Int)).1 (hd R (p:Int)).2≠0->x=zhj)):=fun W hW=>zeC R.s _ _ _ c0 W wf (I.nds.below hW);obtain⟨l0,l1,l2,l3,fz,lt⟩:=zai I.box;dsimp only at l0 l1 l2 l3;rw[hl] at l1;have d6:d<V.heap.size:=lt;have e1:h<V.heap.size:=yd _ _ u0;have e2:(p:Int)<16:=by omega
 have e4:(r:Int)<16:=by omega
 show yL _ #[.pointer (some ⟨d,0,none⟩),.agg #[.int .i64 xk,.int .i64 p,.int .i64 r,.int .i64 xc,.int .i64 xn]] V _;obtain⟨ns,a7⟩:∃ n,R.s.length=n:=⟨_,rfl⟩;have b0:Hid (R.s.length=ns):=a7;have HL:Hid (R.hs.length=16):=hl;clear v0 v1 b3;clear ha hl;generalize hd R (p:Int)=hh at *;obtain⟨P,U⟩:=hh;dsimp only at u0 u1 D |-;obtain⟨E,hE⟩:∃ E,zaC R.s P U=E:=⟨_,rfl⟩;have HE:Hid (zaC R.s P U=E):=hE;obtain⟨M,hM⟩:∃ M,upE R.s P U=M:=⟨_,rfl⟩;have HM:Hid (upE R.s P U=M):=hM;rw[hE] at D;rw[hM];clear hE hM;rw[a7] at D l0;clear a7 I
 go_enter Tryz.func179,Tryz.ntmps179
 go_upto_region 1 with fail
 obtain⟨F,J⟩:∃ F,V.alloc (.cells #[.int .i64 xk,.int .i64 p,.int .i64 r,.int .i64 xc,.int .i64 xn] 36)=F:=⟨_,rfl⟩;have Z:Hid (Below V.heap.size V F):=by rw[<- J];exact zaa _ _
 have y0:F.cell? ⟨V.heap.size,0,none⟩=some (.int .i64 xk):=by rw[<- J];exact zad _ _ _ 0 rfl
 have y1:F.cell? ⟨V.heap.size,1,none⟩=some (.int .i64 p):=by rw[<- J];exact zad _ _ _ 1 rfl
 have y2:F.cell? ⟨V.heap.size,2,none⟩=some (.int .i64 r):=by rw[<- J];exact zad _ _ _ 2 rfl
 have y3:F.cell? ⟨V.heap.size,3,none⟩=some (.int .i64 xc):=by rw[<- J];exact zad _ _ _ 3 rfl
 have y4:F.cell? ⟨V.heap.size,4,none⟩=some (.int .i64 xn):=by rw[<- J];exact zad _ _ _ 4 rfl
 have sV:V.heap.size<F.heap.size:=yd _ _ y0;rw[J];clear J;replace u0:=zab u0 Z.out;replace u1:=zab u1 Z.out;replace l0:=zab l0 Z.out;replace l1:=zab l1 Z.out;replace l2:=zab l2 Z.out;replace l3:=zab l3 Z.out;have n0:¬ F.heap.size=d:=by omega
 have o0:¬ d=F.heap.size:=by omega
 have n1:¬ F.heap.size=h:=by omega
 have o1:¬ h=F.heap.size:=by omega
 have n2:¬ F.heap.size=V.heap.size:=by omega
 have o2:¬ V.heap.size=F.heap.size:=by omega
 have e5:d<F.heap.size:=by omega
 have e6:h<F.heap.size:=by omega
 clear fz lt
 go_cut [6,7] (fun s6 s7 wx=>∃ (b:Nat) (m pp:Int),s6=.pointer (some ⟨b,0,none⟩)/\s7=.int .i64 E/\Hid (Below F.heap.size F wx)/\wx.cell? ⟨b,3,none⟩=some (.int .i64 m)/\wx.cell? ⟨b,4,none⟩=some (.int .i64 pp)/\F.heap.size<=b/\Hid (E=0->m=(nd R.s P.toNat).m/\pp=(nd R.s P.toNat).p))
 case first =>
  go_region_held3 (fun a6=>a6.cell? ⟨d,0,none⟩=some (.slice (some ⟨g,0,none⟩) ns c0)/\a6.cell? ⟨d,1,none⟩=some (.slice (some ⟨h,0,none⟩) 16 c1)/\a6.cell? ⟨h,p*2,none⟩=some (.int .i64 P)/\a6.cell? ⟨h,p*2+1,none⟩=some (.int .i64 U)/\a6.cell? ⟨V.heap.size,1,none⟩=some (.int .i64 p)) (go_keep) (first|(go_at_call 14;refine ye (D.out F.drew Z.out.drew) ?_;rintro e w5 ⟨nx,ka,kl,kc,rfl,T,a5,a8⟩;have O:Hid (Below F.heap.size F w5):=(yk _ _).drew.trans T;have HX:Hid _:=a5;have b5:=zab l0 O.out;have b6:=zab l1 O.out;have b7:=zab u0 O.out;have b8:=zab u1 O.out;have b9:=zab y1 O.out;clear T a5 a8)|(go_at_call 14;refine ye (D.out (F.alloc (.cells #[.bool false,.int .i64 0,.int .i64 0,.int .i64 0,.int .i64 0,.slice none 0 0,.int .i64 0,.bool false] 57)).drew (Z.out.trans ((zaa F _).mono Z.out.size)).drew) ?_;rintro e w5 ⟨nx,ka,kl,kc,rfl,T,a5,a8⟩;have O:Hid (Below F.heap.size F w5):=(zaa F _).drew.trans (T.mono (by simp));have HX:Hid _:=a5;have b5:=zab l0 O.out;have b6:=zab l1 O.out;have b7:=zab u0 O.out;have b8:=zab u1 O.out;have b9:=zab y1 O.out;have X3:Hid (w5.heap[F.heap.size]?=some (.cells #[.bool false,.int .i64 0,.int .i64 0,.int .i64 0,.int .i64 0,.slice none 0 0,.int .i64 0,.bool false] 57 (0,0))):=zav (W:=(F.alloc (.cells #[.bool false,.int .i64 0,.int .i64 0,.int .i64 0,.int .i64 0,.slice none 0 0,.int .i64 0,.bool false] 57)).drew) (yK F _) T;obtain⟨z0,z1,z2,z3,z4,z5,z6,z7,zf,zl⟩:=zdk X3.out;clear T a5 a8))
  ·go_wp2_with fail
   go_meet
   case rel =>
    have r:=zuo nx (.slice ka kl kc) 57 (yk F.heap.size F) O.out;exact⟨_,_,_,rfl,rfl,r.1,r.2.1,r.2.2.1,r.2.2.2,fun h=>by rw[HX.out h];exact⟨rfl,rfl⟩⟩
  ·go_wp2_with fail
   go_meet
   case rel =>
    have r:=zup nx (.slice ka kl kc) (yk F.heap.size F) O.out X3.out;exact⟨_,_,_,rfl,rfl,r.1,r.2.1,r.2.2.1,r.2.2.2,fun h=>by rw[HX.out h];exact⟨rfl,rfl⟩⟩
 case rest =>
  obtain⟨b,m,pp,rfl,rfl,HB,hm,e3,d5,a9⟩:=hcut;have I2:Hid _:=II.out.below (Z.out.trans (HB.out.mono Z.out.size));by_cases hE:E=0
  ·subst hE;obtain⟨_,k,ek,hk,c6,_⟩:=zcC HE.out;subst ek;have hp:=(a9.out rfl).2;rw[yi] at hp;have HU:Hid (0=0->M=if (nd R.s k).p = -1 then 6 else 0):=fun _=>by rw[<- HM.out];unfold upE;rw[HE.out,yb rfl,yi]
   by_cases hn:(nd R.s k).p = -1
   ·obtain rfl:M=6:=by have h:=HU.out rfl;rw[yb hn] at h;exact h
    obtain rfl:pp = -1:=hp.trans hn;clear II D u0 u1 l0 l1 l2 l3 y0 y1 y2 y3 y4 hp hn
    go_wp2
    refine yv (v:=.tuple #[.int .i64 0,.int .i64 6]) (by simp[results,Tryz.results179,go_sem]) rfl ?_
    first|exact⟨⟨0,rfl⟩,I2.out.bel⟩|exact⟨0,rfl,I2.out.bel,fun hE=>absurd hE (by decide)⟩
   ·obtain rfl:M=0:=by have h:=HU.out rfl;rw[ya hn] at h;exact h
    obtain⟨f,ef,hf,_⟩:=wf.parent_place hk hn;obtain rfl:pp=(f:Int):=hp.trans ef;have b1:Hid (upH R.s (k:Int)=((f:Int),(nd R.s f).n)):=by show _=_;unfold upH;rw[yi,ef,yi]
    have b4:wc.cell? ⟨g,f*8+1,none⟩=some (.int .i64 (nd R.s f).n):=by
     obtain⟨b', o', e,c0,c1,_⟩:=I2.out.nds f hf;cases e;rw[yz] at c1;exact c1
    have d9:g<wc.heap.size:=yd _ _ b4;obtain⟨m0,m1,m2,m3,mf,ml⟩:=zai I2.out.box;dsimp only at m0 m1;rw[HL.out] at m1;rw[b0.out] at m0;have d7:f<ns:=(by rw[<- b0.out];exact hf);have d8:(f:Int)<(ns:Int):=(by omega);have c7:¬ ((f:Int) = -1):=(by omega);have c8:((f:Int) == -1)=false:=(by simp[c7]);obtain⟨r0,r1⟩:=I2.out.hand (k:=r) (by rw[HL.out];omega);have rf:=I2.out.row.frozen;have e0:h<wc.heap.size:=yd _ _ r0;replace y2:=zab y2 HB.out;have HS:Hid _:=I2.out.setHand (k:=r) (by rw[HL.out];omega) ((f:Int),(nd R.s f).n) rfl;obtain⟨N1,b2⟩:∃ N1,(nd R.s f).n=N1:=⟨_,rfl⟩;rw[b2] at b4 HS b1;clear II D u0 u1 l0 l1 l2 l3 y0 y1 y3 y4 hp hn ef b2 hm a9 hk c6 hf HU
    go_wp2_with fail
    go_region
    go_wp2
    refine yv (v:=.tuple #[.int .i64 0,.int .i64 0]) (by simp[results,Tryz.results179,go_sem]) rfl ⟨0,rfl,HS.out.1.drew,?_⟩;rw[zlf rfl,b1.out];exact⟨rfl,_,HS.out.2.1,HS.out.2.2.below (yk _ _).drew⟩
  ·obtain rfl:M=E:=by rw[<- HM.out];unfold upE;rw[HE.out,ya hE]
   have hz:(M == 0)=false:=(by simp[hE]);clear II D u0 u1 l0 l1 l2 l3 y0 y1 y2 y3 y4
   go_wp2
   exact yv (v:=.tuple #[.int .i64 0,.int .i64 M]) (by simp[results,Tryz.results179,go_sem]) rfl ⟨0,rfl,I2.out.bel,fun h=>absurd h hE⟩
theorem zmc(F:Nat)(eg:∀ args w,(callFunc F args).run Tryz.prog w=.ok (.enter F args) w)(O:Nat)(w:World)(hc:w.cell? ⟨O,0,none⟩=some (.func (.func F) #[] #[]))(R:Rl)(x:Ac)(hl:R.hs.length=16)(hb:¬ isH x.b):zme 191 #[.pointer (some ⟨O,0,none⟩)] w R x (bad 4):=fun d h g A V I=>by
 rw[(znL 4).2.2];obtain⟨a0,a1,a2,a3,c0,c1,c2,c3⟩:=A;obtain⟨xk,xa,Z,xc,xn⟩:=x;have k0:=(I.bel.cell (yd _ _ hc)).trans hc;obtain⟨l0,l1,l2,l3,fz,lt⟩:=zai I.box;dsimp only at l0 l1 l2 l3;have b2:d<V.heap.size:=lt;have b1:O<V.heap.size:=yd _ _ k0;have II:Hid (WI w R d h g _ V):=I;have DH:Hid (∀ W,Calls _ _ _ _ _):=fun W=>zcE ⟨a0,a1,a2,a3,c0,c1,c2,c3⟩ R Z W hl;dsimp only[rlV] at DH;show yL _ #[.pointer (some ⟨d,0,none⟩),.agg #[.int .i64 xk,.int .i64 xa,.int .i64 Z,.int .i64 xc,.int .i64 xn],.pointer (some ⟨O,0,none⟩)] V _;rw[yE hb] at DH;clear hl I hc hb;generalize R.s.length=ns at *;generalize R.hs.length=nh at *;generalize R.i.length=ni at *;generalize R.t.length=nt at *
 go_enter Tryz.func191,Tryz.ntmps191
 go_upto_region 1 with fail
 obtain⟨D,E⟩:∃ D,V.alloc (.cells #[.int .i64 xk,.int .i64 xa,.int .i64 Z,.int .i64 xc,.int .i64 xn] 36)=D:=⟨_,rfl⟩;have M:Hid (Below V.heap.size V D):=by rw[<- E];exact zaa _ _
 have y0:D.cell? ⟨V.heap.size,0,none⟩=some (.int .i64 xk):=by rw[<- E];exact zad _ _ _ 0 rfl
 have y1:D.cell? ⟨V.heap.size,1,none⟩=some (.int .i64 xa):=by rw[<- E];exact zad _ _ _ 1 rfl
 have y2:D.cell? ⟨V.heap.size,2,none⟩=some (.int .i64 Z):=by rw[<- E];exact zad _ _ _ 2 rfl
 have y3:D.cell? ⟨V.heap.size,3,none⟩=some (.int .i64 xc):=by rw[<- E];exact zad _ _ _ 3 rfl
 have y4:D.cell? ⟨V.heap.size,4,none⟩=some (.int .i64 xn):=by rw[<- E];exact zad _ _ _ 4 rfl
 have sV:V.heap.size<D.heap.size:=yd _ _ y0;rw[E];clear E;replace l0:=zab l0 M.out;replace l1:=zab l1 M.out;replace l2:=zab l2 M.out;replace l3:=zab l3 M.out;replace k0:=zab k0 M.out;have n0:¬ D.heap.size=d:=by omega
 have o0:¬ d=D.heap.size:=by omega
 have n2:¬ D.heap.size=O:=by omega
 have o2:¬ O=D.heap.size:=by omega
 have n3:¬ D.heap.size=V.heap.size:=by omega
 have o3:¬ V.heap.size=D.heap.size:=by omega
 have b3:d<D.heap.size:=by omega
 have a5:O<D.heap.size:=by omega
 clear fz lt
 go_region_held3 (fun J=>J.cell? ⟨d,0,none⟩=some (.slice a0 ns c0)/\J.cell? ⟨d,1,none⟩=some (.slice a1 nh c1)/\J.cell? ⟨d,2,none⟩=some (.slice a2 ni c2)/\J.cell? ⟨d,3,none⟩=some (.slice a3 nt c3)/\J.cell? ⟨V.heap.size,2,none⟩=some (.int .i64 Z)) (go_keep) (first|(go_at_call 161;refine ye (DH.out D.drew) ?_;rintro e w3 ⟨rfl,U⟩;have T:Hid (Below D.heap.size D w3):=(yk _ _).drew.trans U;have a6:=zab l0 T.out;have a7:=zab l1 T.out;have a8:=zab l2 T.out;have a9:=zab l3 T.out;have b0:=zab y2 T.out;clear U))
 have I2:Hid _:=II.out.below (M.out.trans (T.out.mono M.out.size))
 go_wp2
 exact yv (v:=.tuple #[.int .i64 0,.int .i64 4]) (by simp[results,Tryz.results191,go_sem]) rfl ⟨0,rfl,I2.out.bel,fun hE=>absurd hE (by decide)⟩
theorem zjN(F:Nat)(eg:∀ args w,(callFunc F args).run Tryz.prog w=.ok (.enter F args) w)(Z:Nat)(w:World)(hc:w.cell? ⟨Z,0,none⟩=some (.func (.func F) #[] #[]))(R:Rl)(x:Ac)(hl:R.hs.length=16)(hb:isH x.b)(q:Rs)(hF:zme F #[] w R x q):zme 191 #[.pointer (some ⟨Z,0,none⟩)] w R x q:=fun d h g A V I=>by
 have D:Hid (∀ T,WI w R d h g A T->yL F #[.pointer (some ⟨d,0,none⟩),acV x] T fun e T=>∃ o:Int,e=.returned (.tuple #[.int .i64 o,.int .i64 q.e])/\Below w.heap.size w T/\(q.e=0->o=q.o/\∃ B:RA,T.heap[d]?=some (bxR B q.r)/\RlF w.heap.size d T B q.r)):=fun T I' => hF d h g A T I';clear hF;dsimp only[acV] at D;obtain⟨a0,a1,a2,a3,c0,c1,c2,c3⟩:=A;obtain⟨xk,xa,xb,xc,xn⟩:=x;have k0:=(I.bel.cell (yd _ _ hc)).trans hc;obtain⟨l0,l1,l2,l3,fz,lt⟩:=zai I.box;dsimp only at l0 l1 l2 l3;have b7:d<V.heap.size:=lt;have b6:Z<V.heap.size:=yd _ _ k0;have II:Hid (WI w R d h g _ V):=I;have DH:Hid (∀ W,Calls _ _ _ _ _):=fun W=>zcE ⟨a0,a1,a2,a3,c0,c1,c2,c3⟩ R xb W hl;dsimp only[rlV] at DH;show yL _ #[.pointer (some ⟨d,0,none⟩),.agg #[.int .i64 xk,.int .i64 xa,.int .i64 xb,.int .i64 xc,.int .i64 xn],.pointer (some ⟨Z,0,none⟩)] V _;rw[yF hb] at DH;clear hl I hc hb;generalize R.s.length=ns at *;generalize R.hs.length=nh at *;generalize R.i.length=ni at *;generalize R.t.length=nt at *
 go_enter Tryz.func191,Tryz.ntmps191
 go_upto_region 1 with fail
 obtain⟨E,J⟩:∃ E,V.alloc (.cells #[.int .i64 xk,.int .i64 xa,.int .i64 xb,.int .i64 xc,.int .i64 xn] 36)=E:=⟨_,rfl⟩;have U:Hid (Below V.heap.size V E):=by rw[<- J];exact zaa _ _
 have y0:E.cell? ⟨V.heap.size,0,none⟩=some (.int .i64 xk):=by rw[<- J];exact zad _ _ _ 0 rfl
 have y1:E.cell? ⟨V.heap.size,1,none⟩=some (.int .i64 xa):=by rw[<- J];exact zad _ _ _ 1 rfl
 have y2:E.cell? ⟨V.heap.size,2,none⟩=some (.int .i64 xb):=by rw[<- J];exact zad _ _ _ 2 rfl
 have y3:E.cell? ⟨V.heap.size,3,none⟩=some (.int .i64 xc):=by rw[<- J];exact zad _ _ _ 3 rfl
 have y4:E.cell? ⟨V.heap.size,4,none⟩=some (.int .i64 xn):=by rw[<- J];exact zad _ _ _ 4 rfl
 have sV:V.heap.size<E.heap.size:=yd _ _ y0;rw[J];clear J;replace l0:=zab l0 U.out;replace l1:=zab l1 U.out;replace l2:=zab l2 U.out;replace l3:=zab l3 U.out;replace k0:=zab k0 U.out;have n0:¬ E.heap.size=d:=by omega
 have o0:¬ d=E.heap.size:=by omega
 have n2:¬ E.heap.size=Z:=by omega
 have o2:¬ Z=E.heap.size:=by omega
 have n3:¬ E.heap.size=V.heap.size:=by omega
 have o3:¬ V.heap.size=E.heap.size:=by omega
 have b8:d<E.heap.size:=by omega
 have b5:Z<E.heap.size:=by omega
 clear fz lt
 go_region_held3 (fun O=>O.cell? ⟨d,0,none⟩=some (.slice a0 ns c0)/\O.cell? ⟨d,1,none⟩=some (.slice a1 nh c1)/\O.cell? ⟨d,2,none⟩=some (.slice a2 ni c2)/\O.cell? ⟨d,3,none⟩=some (.slice a3 nt c3)/\O.cell? ⟨V.heap.size,2,none⟩=some (.int .i64 xb)) (go_keep) (first|(go_at_call 161;refine ye (DH.out E.drew) ?_;rintro e w3 ⟨rfl,a5⟩;have M:Hid (Below E.heap.size E w3):=(yk _ _).drew.trans a5;have b0:=zab l0 M.out;have b1:=zab l1 M.out;have b2:=zab l2 M.out;have b3:=zab l3 M.out;have b4:=zab y2 M.out;clear a5))
 have I2:Hid _:=II.out.below (U.out.trans (M.out.mono U.out.size));replace k0:=zab k0 M.out;replace y0:=zab y0 M.out;replace y1:=zab y1 M.out;replace y2:=zab y2 M.out;replace y3:=zab y3 M.out;replace y4:=zab y4 M.out;clear b0 b1 b2 b3 b4 l0 l1 l2 l3
 go_wp2_with fail
 refine ye (D.out _ I2.out) ?_;rintro e V5 ⟨o,rfl,a6,a7⟩;have a8:Hid _:=a6;have a9:Hid _:=a7;clear a6 a7 D II I2
 go_wp2
 exact yv (v:=.tuple #[.int .i64 o,.int .i64 q.e]) (by simp[results,Tryz.results191,go_sem]) rfl ⟨o,rfl,a8.out,a9.out⟩
theorem zhY(F:Nat)(W:World):yL 166 #[.func (.func F) #[] #[]] W fun e w' => e=.returned (.func (.func 183) #[] #[.pointer (some ⟨W.heap.size,0,none⟩)])/\Below W.heap.size W w' /\ w'.cell? ⟨W.heap.size,0,none⟩=some (.func (.func F) #[] #[]):=by
 go_enter Tryz.func166,Tryz.ntmps166
 go_wp2
 go_ret;exact⟨rfl,zaa _ _,zad _ _ _ 0 rfl⟩
theorem zkM(F:Nat)(W:World):yL 170 #[.func (.func F) #[] #[]] W fun e w' => e=.returned (.func (.func 187) #[] #[.pointer (some ⟨W.heap.size,0,none⟩)])/\Below W.heap.size W w' /\ w'.cell? ⟨W.heap.size,0,none⟩=some (.func (.func F) #[] #[]):=by
 go_enter Tryz.func170,Tryz.ntmps170
 go_wp2
 go_ret;exact⟨rfl,zaa _ _,zad _ _ _ 0 rfl⟩
theorem zep(F:Nat)(W:World):yL 173 #[.func (.func F) #[] #[]] W fun e w' => e=.returned (.func (.func 188) #[] #[.pointer (some ⟨W.heap.size,0,none⟩)])/\Below W.heap.size W w' /\ w'.cell? ⟨W.heap.size,0,none⟩=some (.func (.func F) #[] #[]):=by
 go_enter Tryz.func173,Tryz.ntmps173
 go_wp2
 go_ret;exact⟨rfl,zaa _ _,zad _ _ _ 0 rfl⟩
theorem zdE(F:Nat)(W:World):yL 176 #[.func (.func F) #[] #[]] W fun e w' => e=.returned (.func (.func 191) #[] #[.pointer (some ⟨W.heap.size,0,none⟩)])/\Below W.heap.size W w' /\ w'.cell? ⟨W.heap.size,0,none⟩=some (.func (.func F) #[] #[]):=by
 go_enter Tryz.func176,Tryz.ntmps176
 go_wp2
 go_ret;exact⟨rfl,zaa _ _,zad _ _ _ 0 rfl⟩
end Go.Proofs.YtcbcpomacdngmaaGreat
