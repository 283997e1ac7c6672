/-
  x
-/
import Derived.Test.YtcbcpomacdngmaaGreatS30
namespace Go.Proofs.YtcbcpomacdngmaaGreat
set_option maxRecDepth 100000
set_option maxHeartbeats 4000000
set_option linter.unusedVariables false
open Go.RowKit Go.ChangeShapes Go.WideShapes
theorem zdi{W:World}{b t:Nat}{D v1 v2 E F I J M:Value}(h:W.heap[b]?=some (.cells #[D,v1,v2,E,F,I,J,M] t (0,0))):W.cell? ⟨b,0,none⟩=some D/\W.cell? ⟨b,1,none⟩=some v1/\W.cell? ⟨b,2,none⟩=some v2/\W.cell? ⟨b,3,none⟩=some E/\W.cell? ⟨b,4,none⟩=some F/\W.cell? ⟨b,5,none⟩=some I/\W.cell? ⟨b,6,none⟩=some J/\W.cell? ⟨b,7,none⟩=some M/\(∀ o,W.frozen? ⟨b,o,none⟩=false)/\b<W.heap.size :=
 ⟨by simp[World.cell?,h],by simp[World.cell?,h],by simp[World.cell?,h],by simp[World.cell?,h],by simp[World.cell?,h],by simp[World.cell?,h],by simp[World.cell?,h],by simp[World.cell?,h],fun o=>by simp[World.frozen?,h],zaw h⟩
theorem zuC{V D w3:World}(x:Nd)(E:Value)(t:Nat)(F:Below V.heap.size V D)(I:Below D.heap.size D w3) :
  Hid (Below V.heap.size V (w3.alloc (.cells #[.bool x.u,.int .i64 x.n,.int .i64 x.t,.int .i64 x.m,.int .i64 x.p,E,.int .i64 x.h,.bool x.c] t)))/\(w3.alloc (.cells #[.bool x.u,.int .i64 x.n,.int .i64 x.t,.int .i64 x.m,.int .i64 x.p,E,.int .i64 x.h,.bool x.c] t)).cell? ⟨w3.heap.size,3,none⟩=some (.int .i64 x.m)/\(w3.alloc (.cells #[.bool x.u,.int .i64 x.n,.int .i64 x.t,.int .i64 x.m,.int .i64 x.p,E,.int .i64 x.h,.bool x.c] t)).cell? ⟨w3.heap.size,4,none⟩=some (.int .i64 x.p)/\V.heap.size<=w3.heap.size:=by
 have b:=F.trans (I.mono F.size);exact⟨b.trans ((zaa _ _).mono b.size),zad _ _ _ 3 rfl,zad _ _ _ 4 rfl,b.size⟩
theorem zvx{W:World}{b t:Nat}{z0 z1 M J I F E D u0 u1 u2 u3 u4 u5 u6 u7:Value}(h:W.heap[b]?=some (.cells #[z0,z1,M,J,I,F,E,D] t (0,0))):((((((((W.setCell ⟨b,0,none⟩ u0).setCell ⟨b,1,none⟩ u1).setCell ⟨b,2,none⟩ u2).setCell ⟨b,3,none⟩ u3).setCell ⟨b,4,none⟩ u4).setCell ⟨b,5,none⟩ u5).setCell ⟨b,6,none⟩ u6).setCell ⟨b,7,none⟩ u7).heap[b]?=some (.cells #[u0,u1,u2,u3,u4,u5,u6,u7] t (0,0)):=by
 have k0:(W.setCell ⟨b,0,none⟩ u0).heap[b]?=some (.cells #[u0,z1,M,J,I,F,E,D] t (0,0)):=zaS (i:=0) h;generalize W.setCell ⟨b,0,none⟩ u0=W0 at k0 |-;have k1:(W0.setCell ⟨b,1,none⟩ u1).heap[b]?=some (.cells #[u0,u1,M,J,I,F,E,D] t (0,0)):=zaS (i:=1) k0;generalize W0.setCell ⟨b,1,none⟩ u1=O at k1 |-;have k2:(O.setCell ⟨b,2,none⟩ u2).heap[b]?=some (.cells #[u0,u1,u2,J,I,F,E,D] t (0,0)):=zaS (i:=2) k1;generalize O.setCell ⟨b,2,none⟩ u2=T at k2 |-;have k3:(T.setCell ⟨b,3,none⟩ u3).heap[b]?=some (.cells #[u0,u1,u2,u3,I,F,E,D] t (0,0)):=zaS (i:=3) k2;generalize T.setCell ⟨b,3,none⟩ u3=U at k3 |-;have k4:(U.setCell ⟨b,4,none⟩ u4).heap[b]?=some (.cells #[u0,u1,u2,u3,u4,F,E,D] t (0,0)):=zaS (i:=4) k3;generalize U.setCell ⟨b,4,none⟩ u4=Z at k4 |-;have k5:(Z.setCell ⟨b,5,none⟩ u5).heap[b]?=some (.cells #[u0,u1,u2,u3,u4,u5,E,D] t (0,0)):=zaS (i:=5) k4;generalize Z.setCell ⟨b,5,none⟩ u5=W5 at k5 |-;have k6:(W5.setCell ⟨b,6,none⟩ u6).heap[b]?=some (.cells #[u0,u1,u2,u3,u4,u5,u6,D] t (0,0)):=zaS (i:=6) k5;generalize W5.setCell ⟨b,6,none⟩ u6=W6 at k6 |-;have k7:(W6.setCell ⟨b,7,none⟩ u7).heap[b]?=some (.cells #[u0,u1,u2,u3,u4,u5,u6,u7] t (0,0)):=zaS (i:=7) k6;exact k7
theorem zuD{V D w3:World}{t:Nat}{M O T U Z z5 z6 z7:Value}(x:Nd)(E:Value)(F:Below V.heap.size V D)(I:Below D.heap.size D w3)(J:w3.heap[D.heap.size]?=some (.cells #[M,O,T,U,Z,z5,z6,z7] t (0,0))) :
  Hid (Below V.heap.size V ((((((((w3.setCell ⟨D.heap.size,0,none⟩ (.bool x.u)).setCell ⟨D.heap.size,1,none⟩ (.int .i64 x.n)).setCell ⟨D.heap.size,2,none⟩ (.int .i64 x.t)).setCell ⟨D.heap.size,3,none⟩ (.int .i64 x.m)).setCell ⟨D.heap.size,4,none⟩ (.int .i64 x.p)).setCell ⟨D.heap.size,5,none⟩ E).setCell ⟨D.heap.size,6,none⟩ (.int .i64 x.h)).setCell ⟨D.heap.size,7,none⟩ (.bool x.c)))/\((((((((w3.setCell ⟨D.heap.size,0,none⟩ (.bool x.u)).setCell ⟨D.heap.size,1,none⟩ (.int .i64 x.n)).setCell ⟨D.heap.size,2,none⟩ (.int .i64 x.t)).setCell ⟨D.heap.size,3,none⟩ (.int .i64 x.m)).setCell ⟨D.heap.size,4,none⟩ (.int .i64 x.p)).setCell ⟨D.heap.size,5,none⟩ E).setCell ⟨D.heap.size,6,none⟩ (.int .i64 x.h)).setCell ⟨D.heap.size,7,none⟩ (.bool x.c)).cell? ⟨D.heap.size,3,none⟩=some (.int .i64 x.m)/\((((((((w3.setCell ⟨D.heap.size,0,none⟩ (.bool x.u)).setCell ⟨D.heap.size,1,none⟩ (.int .i64 x.n)).setCell ⟨D.heap.size,2,none⟩ (.int .i64 x.t)).setCell ⟨D.heap.size,3,none⟩ (.int .i64 x.m)).setCell ⟨D.heap.size,4,none⟩ (.int .i64 x.p)).setCell ⟨D.heap.size,5,none⟩ E).setCell ⟨D.heap.size,6,none⟩ (.int .i64 x.h)).setCell ⟨D.heap.size,7,none⟩ (.bool x.c)).cell? ⟨D.heap.size,4,none⟩=some (.int .i64 x.p)/\V.heap.size<=D.heap.size:=by
 have b:=F.trans (I.mono F.size);have s:=F.size;have k:=zvx (u0:=.bool x.u) (u1:=.int .i64 x.n) (u2:=.int .i64 x.t) (u3:=.int .i64 x.m) (u4:=.int .i64 x.p) (u5:=E) (u6:=.int .i64 x.h) (u7:=.bool x.c) J;obtain⟨_,_,_,c3,c4,_⟩:=zdi k;exact⟨(((((((b.setCell s _).setCell s _).setCell s _).setCell s _).setCell s _).setCell s _).setCell s _).setCell s _,c3,c4,s⟩
theorem znw(w:World)(R:Rl)(x:Ac)(wf:WF R.s)(hl:R.hs.length=16)(ha:isH x.a):zmh 169 #[] w R x (zzv R (hd R x.a)):=fun d h g A V I=>by
 unfold zzv;rw[zlk];obtain⟨a0,a1,a2,a3,c0,c1,c2,c3⟩:=A;obtain rfl:a0=some ⟨g,0,none⟩:=I.a0;obtain rfl:a1=some ⟨h,0,none⟩:=I.a1;obtain⟨xk,xa,xb,xc,xn⟩:=x;obtain⟨p,hp,b3⟩:=zmk ha;dsimp only at hp;subst hp;obtain⟨u0,u1⟩:=I.hand (k:=p) (by omega);have II:Hid (WI w R d h g _ V):=I;have D:Hid (∀ W,Below V.heap.size V W->yM 14 #[.agg #[.slice (some ⟨g,0,none⟩) R.s.length c0],.agg #[.int .i64 (hd R (p:Int)).1,.int .i64 (hd R (p:Int)).2]] W fun e w' => ∃ (x:Nd) (ka:Option Addr) (kl kc:Nat),e=.returned (.tuple #[.agg #[.bool x.u,.int .i64 x.n,.int .i64 x.t,.int .i64 x.m,.int .i64 x.p,.slice ka kl kc,.int .i64 x.h,.bool x.c],.int .i64 (zaG R.s (hd R (p:Int)).1 (hd R (p:Int)).2)])/\Below W.heap.size W w' /\(zaG R.s (hd R (p:Int)).1 (hd R (p:Int)).2=0->x=nd R.s (hd R (p:Int)).1.toNat)/\(zaG R.s (hd R (p:Int)).1 (hd R (p:Int)).2≠0->x=zhl)):=fun W hW=>zfJ R.s _ _ _ c0 W wf (I.nds.below hW);obtain⟨l0,l1,l2,l3,fz,lt⟩:=zak I.box;dsimp only at l0 l1 l2 l3;rw[hl] at l1;have b6:d<V.heap.size:=lt;have b7:h<V.heap.size:=yd _ _ u0;have b8:(p:Int)<16:=by omega
 show yM _ #[.pointer (some ⟨d,0,none⟩),.agg #[.int .i64 xk,.int .i64 p,.int .i64 xb,.int .i64 xc,.int .i64 xn]] V _;obtain⟨ns,a6⟩:∃ n,R.s.length=n:=⟨_,rfl⟩;have b4:Hid (R.s.length=ns):=a6;clear ha hl;generalize hd R (p:Int)=hh at *;obtain⟨P,U⟩:=hh;dsimp only at u0 u1 D |-;obtain⟨E,hE⟩:∃ E,zaG R.s P U=E:=⟨_,rfl⟩;have HE:Hid (zaG R.s P U=E):=hE;rw[hE] at D |-;clear hE;rw[a6] at D l0;clear a6 I
 go_enter Tryz.func169,Tryz.ntmps169
 go_upto_region 1 with fail
 obtain⟨F,J⟩:∃ F,V.alloc (.cells #[.int .i64 xk,.int .i64 p,.int .i64 xb,.int .i64 xc,.int .i64 xn] 36)=F:=⟨_,rfl⟩;have T:Hid (Below V.heap.size V F):=by rw[<- J];exact zaa _ _
 have y0:F.cell? ⟨V.heap.size,0,none⟩=some (.int .i64 xk):=by rw[<- J];exact zad _ _ _ 0 rfl
 have y1:F.cell? ⟨V.heap.size,1,none⟩=some (.int .i64 p):=by rw[<- J];exact zad _ _ _ 1 rfl
 have y2:F.cell? ⟨V.heap.size,2,none⟩=some (.int .i64 xb):=by rw[<- J];exact zad _ _ _ 2 rfl
 have y3:F.cell? ⟨V.heap.size,3,none⟩=some (.int .i64 xc):=by rw[<- J];exact zad _ _ _ 3 rfl
 have y4:F.cell? ⟨V.heap.size,4,none⟩=some (.int .i64 xn):=by rw[<- J];exact zad _ _ _ 4 rfl
 have sV:V.heap.size<F.heap.size:=yd _ _ y0;rw[J];clear J;replace u0:=zab u0 T.out;replace u1:=zab u1 T.out;replace l0:=zab l0 T.out;replace l1:=zab l1 T.out;replace l2:=zab l2 T.out;replace l3:=zab l3 T.out;have n0:¬ F.heap.size=d:=by omega
 have o0:¬ d=F.heap.size:=by omega
 have n1:¬ F.heap.size=h:=by omega
 have o1:¬ h=F.heap.size:=by omega
 have n2:¬ F.heap.size=V.heap.size:=by omega
 have o2:¬ V.heap.size=F.heap.size:=by omega
 have c6:d<F.heap.size:=by omega
 have c7:h<F.heap.size:=by omega
 clear fz lt
 go_cut [6,7] (fun s6 s7 wx=>∃ (b:Nat) (m pp:Int),s6=.pointer (some ⟨b,0,none⟩)/\s7=.int .i64 E/\Hid (Below F.heap.size F wx)/\wx.cell? ⟨b,3,none⟩=some (.int .i64 m)/\wx.cell? ⟨b,4,none⟩=some (.int .i64 pp)/\F.heap.size<=b/\Hid (E=0->m=(nd R.s P.toNat).m/\pp=(nd R.s P.toNat).p))
 case first =>
  go_region_held3 (fun a5=>a5.cell? ⟨d,0,none⟩=some (.slice (some ⟨g,0,none⟩) ns c0)/\a5.cell? ⟨d,1,none⟩=some (.slice (some ⟨h,0,none⟩) 16 c1)/\a5.cell? ⟨h,p*2,none⟩=some (.int .i64 P)/\a5.cell? ⟨h,p*2+1,none⟩=some (.int .i64 U)/\a5.cell? ⟨V.heap.size,1,none⟩=some (.int .i64 p)) (go_keep) (first|(go_at_call 14;refine ye (D.out F.drew T.out.drew) ?_;rintro e w5 ⟨nx,ka,kl,kc,rfl,O,Z,a7⟩;have M:Hid (Below F.heap.size F w5):=(yk _ _).drew.trans O;have HX:Hid _:=Z;have a8:=zab l0 M.out;have a9:=zab l1 M.out;have b0:=zab u0 M.out;have b1:=zab u1 M.out;have b2:=zab y1 M.out;clear O Z a7)|(go_at_call 14;refine ye (D.out (F.alloc (.cells #[.bool false,.int .i64 0,.int .i64 0,.int .i64 0,.int .i64 0,.slice none 0 0,.int .i64 0,.bool false] 57)).drew (T.out.trans ((zaa F _).mono T.out.size)).drew) ?_;rintro e w5 ⟨nx,ka,kl,kc,rfl,O,Z,a7⟩;have M:Hid (Below F.heap.size F w5):=(zaa F _).drew.trans (O.mono (by simp));have HX:Hid _:=Z;have a8:=zab l0 M.out;have a9:=zab l1 M.out;have b0:=zab u0 M.out;have b1:=zab u1 M.out;have b2:=zab y1 M.out;have X3:Hid (w5.heap[F.heap.size]?=some (.cells #[.bool false,.int .i64 0,.int .i64 0,.int .i64 0,.int .i64 0,.slice none 0 0,.int .i64 0,.bool false] 57 (0,0))):=zaA (W:=(F.alloc (.cells #[.bool false,.int .i64 0,.int .i64 0,.int .i64 0,.int .i64 0,.slice none 0 0,.int .i64 0,.bool false] 57)).drew) (yL F _) O;obtain⟨z0,z1,z2,z3,z4,z5,z6,z7,zf,zl⟩:=zdi X3.out;clear O Z a7))
  ·go_wp2_with fail
   go_meet
   case rel =>
    have r:=zuC nx (.slice ka kl kc) 57 (yk F.heap.size F) M.out;exact⟨_,_,_,rfl,rfl,r.1,r.2.1,r.2.2.1,r.2.2.2,fun h=>by rw[HX.out h];exact⟨rfl,rfl⟩⟩
  ·go_wp2_with fail
   go_meet
   case rel =>
    have r:=zuD nx (.slice ka kl kc) (yk F.heap.size F) M.out X3.out;exact⟨_,_,_,rfl,rfl,r.1,r.2.1,r.2.2.1,r.2.2.2,fun h=>by rw[HX.out h];exact⟨rfl,rfl⟩⟩
 case rest =>
  obtain⟨b,m,pp,rfl,rfl,HB,hm,b9,b5,HM⟩:=hcut;have I2:Hid _:=II.out.below (T.out.trans (HB.out.mono T.out.size));clear II D u0 u1 l0 l1 l2 l3 y0 y1 y2 y3 y4
  go_wp2
  refine yw (v:=.tuple #[.int .i64 m,.int .i64 E]) (by simp[results,Tryz.results169,go_sem]) rfl ⟨m,rfl,I2.out.bel,fun hE=>?_⟩;rw[zlj hE];exact⟨(HM.out hE).1,_,I2.out.box,I2.out.rl⟩
theorem zjP(F:Nat)(eg:∀ args w,(callFunc F args).run Tryz.prog w=.ok (.enter F args) w)(cb:Nat)(w:World)(hc:w.cell? ⟨cb,0,none⟩=some (.func (.func F) #[] #[]))(R:Rl)(x:Ac)(hl:R.hs.length=16)(ha:isH x.a)(E:Int)(N:Nat)
  (hF:∀ (a:Option Addr) (c:Nat) (W:World),zai W a R.s->yM F #[.agg #[.slice a R.s.length c],hdV (hd R x.a),acV x] W fun e w' => ∃ a' c' n,e=.returned (.tuple #[.slice a' n c', .int .i64 E])/\Below W.heap.size W w' /\(E=0->n=N)) :
  zmh 188 #[.pointer (some ⟨cb,0,none⟩)] w R x (ans E R N):=fun d h g A V I=>by
 rw[zlk];obtain⟨a0,a1,a2,a3,c0,c1,c2,c3⟩:=A;obtain rfl:a0=some ⟨g,0,none⟩:=I.a0;obtain rfl:a1=some ⟨h,0,none⟩:=I.a1;obtain⟨xk,xa,xb,xc,xn⟩:=x;obtain⟨p,hp,b8⟩:=zmk ha;dsimp only at hp;subst hp;obtain⟨u0,u1⟩:=I.hand (k:=p) (by omega);have II:Hid (WI w R d h g _ V):=I;have D:Hid (∀ W,Below V.heap.size V W->yM F #[.agg #[.slice (some ⟨g,0,none⟩) R.s.length c0],.agg #[.int .i64 (hd R (p:Int)).1,.int .i64 (hd R (p:Int)).2],.agg #[.int .i64 xk,.int .i64 p,.int .i64 xb,.int .i64 xc,.int .i64 xn]] W fun e w' => ∃ a' c' n,e=.returned (.tuple #[.slice a' n c', .int .i64 E])/\Below W.heap.size W w' /\(E=0->n=N)):=fun W hW=>hF (some ⟨g,0,none⟩) c0 W (I.nds.below hW);clear hF;have k0:=(I.bel.cell (yd _ _ hc)).trans hc;obtain⟨l0,l1,l2,l3,fz,lt⟩:=zak I.box;dsimp only at l0 l1 l2 l3;rw[hl] at l1;have c8:d<V.heap.size:=lt;have c9:h<V.heap.size:=yd _ _ u0;have c7:cb<V.heap.size:=yd _ _ k0;have d4:(p:Int)<16:=by omega
 show yM _ #[.pointer (some ⟨d,0,none⟩),.agg #[.int .i64 xk,.int .i64 p,.int .i64 xb,.int .i64 xc,.int .i64 xn],.pointer (some ⟨cb,0,none⟩)] V _;obtain⟨ns,a5⟩:∃ n,R.s.length=n:=⟨_,rfl⟩;have c6:Hid (R.s.length=ns):=a5;clear ha hl;generalize hd R (p:Int)=hh at *;obtain⟨P,U⟩:=hh;dsimp only at u0 u1 D |-;rw[a5] at D l0;clear a5 I hc
 go_enter Tryz.func188,Tryz.ntmps188
 go_upto_region 1 with fail
 obtain⟨J,O⟩:∃ J,V.alloc (.cells #[.int .i64 xk,.int .i64 p,.int .i64 xb,.int .i64 xc,.int .i64 xn] 36)=J:=⟨_,rfl⟩;have Z:Hid (Below V.heap.size V J):=by rw[<- O];exact zaa _ _
 have y0:J.cell? ⟨V.heap.size,0,none⟩=some (.int .i64 xk):=by rw[<- O];exact zad _ _ _ 0 rfl
 have y1:J.cell? ⟨V.heap.size,1,none⟩=some (.int .i64 p):=by rw[<- O];exact zad _ _ _ 1 rfl
 have y2:J.cell? ⟨V.heap.size,2,none⟩=some (.int .i64 xb):=by rw[<- O];exact zad _ _ _ 2 rfl
 have y3:J.cell? ⟨V.heap.size,3,none⟩=some (.int .i64 xc):=by rw[<- O];exact zad _ _ _ 3 rfl
 have y4:J.cell? ⟨V.heap.size,4,none⟩=some (.int .i64 xn):=by rw[<- O];exact zad _ _ _ 4 rfl
 have sV:V.heap.size<J.heap.size:=yd _ _ y0;rw[O];clear O;replace u0:=zab u0 Z.out;replace u1:=zab u1 Z.out;replace l0:=zab l0 Z.out;replace l1:=zab l1 Z.out;replace l2:=zab l2 Z.out;replace l3:=zab l3 Z.out;replace k0:=zab k0 Z.out;have n0:¬ J.heap.size=d:=by omega
 have o0:¬ d=J.heap.size:=by omega
 have n1:¬ J.heap.size=h:=by omega
 have o1:¬ h=J.heap.size:=by omega
 have n2:¬ J.heap.size=cb:=by omega
 have o2:¬ cb=J.heap.size:=by omega
 have n3:¬ J.heap.size=V.heap.size:=by omega
 have o3:¬ V.heap.size=J.heap.size:=by omega
 have d5:d<J.heap.size:=by omega
 have d6:h<J.heap.size:=by omega
 have b9:cb<J.heap.size:=by omega
 clear fz lt
 go_region_held3 (fun M=>M.cell? ⟨cb,0,none⟩=some (.func (.func F) #[] #[])/\M.cell? ⟨d,0,none⟩=some (.slice (some ⟨g,0,none⟩) ns c0)/\M.cell? ⟨d,1,none⟩=some (.slice (some ⟨h,0,none⟩) 16 c1)/\M.cell? ⟨h,p*2,none⟩=some (.int .i64 P)/\M.cell? ⟨h,p*2+1,none⟩=some (.int .i64 U)/\M.cell? ⟨V.heap.size,0,none⟩=some (.int .i64 xk)/\M.cell? ⟨V.heap.size,1,none⟩=some (.int .i64 p)/\M.cell? ⟨V.heap.size,2,none⟩=some (.int .i64 xb)/\M.cell? ⟨V.heap.size,3,none⟩=some (.int .i64 xc)/\M.cell? ⟨V.heap.size,4,none⟩=some (.int .i64 xn)) (go_keep) (first|(refine ye (D.out J.drew Z.out.drew) ?_;rintro e w3 ⟨a', c', n,rfl,a6,a7⟩;have T:Hid (Below J.heap.size J w3):=(yk _ _).drew.trans a6;have N3:Hid _:=a7;have a8:=zab k0 T.out;have a9:=zab l0 T.out;have b0:=zab l1 T.out;have b1:=zab u0 T.out;have b2:=zab u1 T.out;have b3:=zab y0 T.out;have b4:=zab y1 T.out;have b5:=zab y2 T.out;have b6:=zab y3 T.out;have b7:=zab y4 T.out;clear a6 a7))
 have I2:Hid _:=II.out.below (Z.out.trans (T.out.mono Z.out.size));clear II D u0 u1 l0 l1 l2 l3 k0 y0 y1 y2 y3 y4 a8 a9 b0 b1 b2 b3 b4 b5 b6 b7
 go_wp2
 refine yw (v:=.tuple #[.int .i64 n,.int .i64 E]) (by simp[results,Tryz.results188,go_sem]) rfl ⟨n,rfl,I2.out.bel,fun hE=>?_⟩;rw[zlj hE];exact⟨by rw[N3.out hE],_,I2.out.box,I2.out.rl⟩
theorem zoy(a:Option Addr)(c:Nat)(L:List Fr)(k top:Int)(w:World)(I:L.length<=9223372036854775807)(F:zaP w a L) :
  yM 163 #[.slice a L.length c,.int .i64 k,.int .i64 top] w fun e w' => e=.returned (.bool ((!decide (k=top)) && inF L k top))/\w' = w:=by
 have D:Hid _:=zgp a c L k top w I F;clear F;generalize inF L k top=r at *;generalize L.length=n at *;by_cases h:k=top
 ·subst h;simp only[decide_true,Bool.not_true,Bool.false_and]
  go_enter Tryz.func163,Tryz.ntmps163
  go_wp2_with fail
  go_ret;exact⟨rfl,rfl⟩
 ·have h1:decide (k=top)=false:=yF h;have J:(k == top)=false:=by simp[h]
  have M:(k != top)=true:=by simp[h]
  rw[h1];simp only[Bool.not_false,Bool.true_and]
  go_enter Tryz.func163,Tryz.ntmps163
  go_wp2_with fail
  refine ye D.out ?_;rintro e O ⟨rfl,E⟩;subst E
  go_wp2_with fail
  go_ret;exact⟨rfl,rfl⟩
theorem zww(a:Option Addr)(c:Nat)(L:List Fr)(f t:Nat)(al:Bool)(nd:Int)(T:Bool)(w:World)(hN:L.length<=1000)(U:zaP w a L)(hf:f<L.length)(ht:t<L.length) :
  yM 155 #[.agg #[.bool al,.int .i64 nd,.bool T],.slice a L.length c,.int .i64 (f:Int),.int .i64 (t:Int)] w fun e w' => e=.returned (.bool (ztC L f t al nd T))/\Below w.heap.size w w' := by
 have D:Hid (∀ W,zaP W a L->_):=fun W hW=>zoy a c L t f W (by omega) hW;have HL:Hid (zaP w a L):=U;obtain⟨b,o,ea,f0,f1,f2,f3,f4⟩:=U f hf;obtain⟨b', o', O,t0,t1,t2,t3,t4⟩:=U t ht;rw[ea] at O;cases O;subst ea;have a8:b<w.heap.size:=yd _ _ f0;have a7:(f:Int)<(L.length:Int):=by omega
 have a9:(t:Int)<(L.length:Int):=by omega
 unfold ztC;rw[yi,yi];clear U f0 f3 f4 t0 t2 t3 t4;generalize ((!decide ((t:Int)=(f:Int))) && inF L t f)=r at *;generalize fr L f=x at *;generalize fr L t=y at *;obtain⟨xp,Z,F,xt,xg⟩:=x;obtain⟨yp,yo,ym,yt,yg⟩:=y;dsimp only at f1 f2 t1 |-;generalize L.length=n at *;cases al
 ·simp only[Bool.not_false,Bool.true_or,Bool.true_and];by_cases J:bits .andNot .i64 nd F=0
  ·have E:decide (bits .andNot .i64 nd F=0)=true:=yG J;rw[E];simp only[Bool.true_and];cases T
   ·simp only[Bool.not_false,Bool.true_or]
    go_enter Tryz.func155,Tryz.ntmps155
    go_wp2_with fail
    go_big_quiet (fail)
    go_wp2_with fail
    go_big_quiet (fail)
    go_wp2_with fail
    go_ret;exact⟨rfl,zbL (zaa w _) _⟩
   ·simp only[Bool.not_true,Bool.false_or]
    go_enter Tryz.func155,Tryz.ntmps155
    go_wp2_with fail
    go_big_quiet (fail)
    go_wp2_with fail
    go_big_quiet (fail)
    go_wp2_with fail
    refine ye (D.out _ (HL.out.below (zbL (zaa w _) _))) ?_;rintro e w1 ⟨rfl,M⟩;subst M
    go_wp2_with fail
    go_ret;exact⟨rfl,zbL (zaa w _) _⟩
  ·have E:decide (bits .andNot .i64 nd F=0)=false:=yF J;have a5:(bits .andNot .i64 nd F != 0)=true:=(by simp[J]);rw[E];simp only[Bool.false_and]
   go_enter Tryz.func155,Tryz.ntmps155
   go_wp2_with fail
   go_big_quiet (fail)
   go_wp2_with fail
   go_big_quiet (fail)
   go_wp2_with fail
   go_ret;exact⟨rfl,zbL (zbL (zaa w _) _) _⟩
 ·by_cases h1:Z=yo
  ·have I:decide (Z=yo)=true:=yG h1;rw[I];simp only[Bool.not_true,Bool.false_or,Bool.true_and];subst h1;by_cases J:bits .andNot .i64 nd F=0
   ·have E:decide (bits .andNot .i64 nd F=0)=true:=yG J;rw[E];simp only[Bool.true_and];cases T
    ·simp only[Bool.not_false,Bool.true_or]
     go_enter Tryz.func155,Tryz.ntmps155
     go_wp2_with fail
     go_big_quiet (fail)
     go_wp2_with fail
     go_big_quiet (fail)
     go_wp2_with fail
     go_ret;exact⟨rfl,zbL (zaa w _) _⟩
    ·simp only[Bool.not_true,Bool.false_or]
     go_enter Tryz.func155,Tryz.ntmps155
     go_wp2_with fail
     go_big_quiet (fail)
     go_wp2_with fail
     go_big_quiet (fail)
     go_wp2_with fail
     refine ye (D.out _ (HL.out.below (zbL (zaa w _) _))) ?_;rintro e w1 ⟨rfl,M⟩;subst M
     go_wp2_with fail
     go_ret;exact⟨rfl,zbL (zaa w _) _⟩
   ·have E:decide (bits .andNot .i64 nd F=0)=false:=yF J;have a5:(bits .andNot .i64 nd F != 0)=true:=(by simp[J]);rw[E];simp only[Bool.false_and]
    go_enter Tryz.func155,Tryz.ntmps155
    go_wp2_with fail
    go_big_quiet (fail)
    go_wp2_with fail
    go_big_quiet (fail)
    go_wp2_with fail
    go_ret;exact⟨rfl,zbL (zbL (zaa w _) _) _⟩
  ·have I:decide (Z=yo)=false:=yF h1;have a6:(Z != yo)=true:=(by simp[h1]);rw[I];simp only[Bool.not_true,Bool.false_or,Bool.false_and]
   go_enter Tryz.func155,Tryz.ntmps155
   go_wp2_with fail
   go_big_quiet (fail)
   go_wp2_with fail
   go_ret;exact⟨rfl,zbL (zaa w _) _⟩
abbrev rv(r:Bool × Int × Bool):Value:=.agg #[.bool r.1,.int .i64 r.2.1,.bool r.2.2]
def zfd(n:Int):Lit->Option Value
 | .int .i64 k=>if k<=n then (zhe k).map rv else none
 | _=>none
theorem znn(n k:Int):zfd n (.int .i64 k)=if k<=n then (zhe k).map rv else none:=rfl
theorem zfA{n:Int}(j:Lit)(h:j≠.int .i64 (n+1)):zfd (n+1) j=zfd n j:=by
 unfold zfd;split
 ·rename_i k;have E:k≠n+1:=fun e=>h (by rw[e]);by_cases D:k<=n
  ·rw[yb D,yb (by omega)]
  ·rw[ya D,ya (by omega)]
 ·rfl
theorem zrE(j:Lit):zfd 0 j=none:=by
 unfold zfd;split
 ·rename_i k;by_cases D:k<=0
  ·rw[yb D,zjI.2 (by omega)];rfl
  ·rw[ya D]
 ·rfl
theorem zgs{k:Int}(h:(Lit.int .i64 k).wf=true):keyOf Tryz.prog 3 (.int .i64 k)=some (.int .i64 k):=Maps.keyOf_int_mk Tryz.underlying3 h
theorem zno(w:World) :
  yM 154 #[] w fun e w' => ∃ b,e=.returned (.map (some b))/\zcy Tryz.prog 3 w' b 5 (zfd 5)/\Below w.heap.size w w' := by
 have a5:=@run_makeMap Tryz.prog;have m0:zcy Tryz.prog 3 (w.alloc (.map #[] 0)) w.heap.size 0 (zfd 0):=(zcy.made Tryz.prog 3 w).congr (fun kl _=>(zrE kl).symm);obtain⟨w1,p1,k1,g1⟩:=m0.put (Maps.int_keyed Tryz.underlying3) (t:=201) Tryz.underlying201 (by unfold maxLen;omega) (zgs (k:=1) (by decide)) trivial (rv (true,0,false));have m1:=k1 (zfd 1) rfl (fun j D=>zfA (n:=0) j D);obtain⟨w2,p2,k2,g2⟩:=m1.put (Maps.int_keyed Tryz.underlying3) (t:=201) Tryz.underlying201 (by unfold maxLen;omega) (zgs (k:=2) (by decide)) trivial (rv (false,0,false));have m2:=k2 (zfd 2) rfl (fun j D=>zfA (n:=1) j D);obtain⟨w3,p3,k3,g3⟩:=m2.put (Maps.int_keyed Tryz.underlying3) (t:=201) Tryz.underlying201 (by unfold maxLen;omega) (zgs (k:=3) (by decide)) trivial (rv (false,2,false));have m3:=k3 (zfd 3) rfl (fun j D=>zfA (n:=2) j D);obtain⟨w4,p4,k4,T⟩:=m3.put (Maps.int_keyed Tryz.underlying3) (t:=201) Tryz.underlying201 (by unfold maxLen;omega) (zgs (k:=4) (by decide)) trivial (rv (false,0,true));have m4:=k4 (zfd 4) rfl (fun j D=>zfA (n:=3) j D);obtain⟨w5,p5,k5,U⟩:=m4.put (Maps.int_keyed Tryz.underlying3) (t:=201) Tryz.underlying201 (by unfold maxLen;omega) (zgs (k:=5) (by decide)) trivial (rv (false,0,true));have m5:=k5 (zfd 5) rfl (fun j D=>zfA (n:=4) j D);have up:∀ {x y:World},x.grownBy y (some w.heap.size)->w.heap.size<=x.heap.size->Below w.heap.size x y:=fun h _=>⟨h.os,h.tape,h.output,h.size,fun k hk=>h.block k (by omega) (by intro e;have:=Option.some.inj e;omega)⟩
 have E:Below w.heap.size w (w.alloc (.map #[] 0)):=zaa w _;have F:=E.trans (up g1 E.size);have I:=F.trans (up g2 F.size);have J:=I.trans (up g3 I.size);have O:=J.trans (up T J.size);have z5:=O.trans (up U O.size);have M:Hid (zcy Tryz.prog 3 w5 w.heap.size 5 (zfd 5)):=m5;have Z:Hid (Below w.heap.size w w5):=z5;clear m0 m1 m2 m3 m4 m5 k1 k2 k3 k4 k5 g1 g2 g3 T U E F I J O z5 up;dsimp only[rv] at p1 p2 p3 p4 p5
 go_enter Tryz.func154,Tryz.ntmps154
 go_wp2_with fail
 go_ret;exact⟨_,rfl,M.out,Z.out⟩
def zmj(L:List Fr)(k:Int)(i:Nat):List Fr:=(List.range L.length).map fun j=>if j<i then { fr L j with g:=(fr L j).g || inF L j k } else fr L j
theorem zlx(L:List Fr)(k:Int)(i:Nat):(zmj L k i).length=L.length:=by unfold zmj;simp
theorem zgk{L:List Fr}{k:Int}{i j:Nat}(h:j<L.length):fr (zmj L k i) j=if j<i then { fr L j with g:=(fr L j).g || inF L j k } else fr L j:=by
 rw[zgo (by rw[zlx];exact h)];unfold zmj;simp
theorem zvH(L:List Fr)(k:Int):zmj L k L.length=zjW L k:=by
 refine zzN (by rw[zlx,zdr]) (fun i hi=>?_);rw[zlx] at hi;rw[zgk hi,yb hi,zpw hi]
def zeX(w:World)(g n:Nat)(L:List Fr):Prop:=∃ F,w.rowIs g 65 (n*5) F/\∀ m,m<n*5->F m=frF L m
theorem zeX.start{w:World}{g:Nat}{L:List Fr}{k:Int}(h:zeX w g L.length L):zeX w g L.length (zmj L k 0):=by
 obtain⟨F,h1,D⟩:=h;exact⟨F,h1,fun m E=>(D m E).trans (zgT (by rw[zgk (by omega),ya (by omega)]))⟩
theorem zeX.no{w:World}{g i:Nat}{L:List Fr}{k:Int}(h:zeX w g L.length (zmj L k i))(hi:i<L.length)(D:inF L i k=false):zeX w g L.length (zmj L k (i+1)):=by
 obtain⟨F,h1,I⟩:=h;refine⟨F,h1,fun m J=>(I m J).trans (zgT ?_)⟩;rw[zgk (by omega),zgk (by omega)];by_cases e:m / 5<i
 ·rw[yb e,yb (by omega)]
 ·by_cases E:m / 5=i
  ·rw[E,ya (by omega),yb (by omega),D,Bool.or_false]
  ·rw[ya e,ya (by omega)]
theorem zeX.yes{w:World}{g i:Nat}{L:List Fr}{k:Int}(h:zeX w g L.length (zmj L k i))(hi:i<L.length)(E:inF L i k=true):zeX (w.setCell ⟨g,i*5+4,none⟩ (.bool true)) g L.length (zmj L k (i+1)):=by
 obtain⟨F,h1,M⟩:=h;refine⟨_,h1.set (i*5+4) (.bool true),fun m O=>?_⟩;by_cases e:m=i*5+4
 ·subst e;rw[yb rfl,zdu _ _ 4 (by omega),zgk hi,yb (by omega),E,Bool.or_true];rfl
 ·rw[ya e,M m O];unfold frF;rw[zgk (by omega),zgk (by omega)];by_cases I:m / 5<i
  ·rw[yb I,yb (by omega)]
  ·by_cases J:m / 5=i
   ·rw[J,ya (by omega),yb (by omega)];have D:m % 5=0\/m % 5=1\/m % 5=2\/m % 5=3:=(by omega);rcases D with D|D|D|D <;> rw[D] <;> rfl
   ·rw[ya I,ya (by omega)]
theorem zqD(a:Option Addr)(c:Nat)(L:List Fr)(k:Int)(w:World)(hN:L.length<=8)(hL:zaP w a L)(hE:zcv L k=0) :
  yM 140 #[.slice a L.length c,.int .i64 k] w fun e w' => ∃ g,e=.returned (.tuple #[.slice (some ⟨g,0,none⟩) L.length L.length,.int .i64 0])/\Below w.heap.size w w' /\ w.heap.size<=g/\zaP w' (some ⟨g,0,none⟩) (zjW L k):=by
 have d:=zeD a c L k w (by omega) hL;rw[hE] at d;have D:Hid _:=d;obtain⟨R,q,rfl,hq,hg⟩:=zfm hE;have HL:Hid (zaP w a L):=hL;obtain⟨b,ao,ea,c0,c1,c2,c3,c4⟩:=hL q hq;subst ea;clear c0 c1 c2 c3 c4 hg hE R d hL hq;have DW:Hid (∀ (i:Nat) (W:World),zaP W (some ⟨b,ao,none⟩) L->_):=fun i W hW=>zgp (some ⟨b,ao,none⟩) c L (i:Int) (q:Int) W (by omega) hW;obtain⟨i0,b9,d6,c8,d7⟩:=info_parts zjg;have c7:=zkP L.length (by omega);have b8:Hid (∀ W,zaP W (some ⟨b,ao,none⟩) L->∀ j v,(zbw L)[j]?=some v->W.cell? ((⟨b,ao,none⟩:Addr).add j)=some v):=fun W hW=>hW.src;have b7:Hid _:=zhz L;have a7:Hid ((zbw L).length=L.length*5):=zdY L;have CP:Hid (∀ (W:World) (g:Nat),W.heap[g]?=some (.cells (zbw L++(madeCells zex (L.length*5)).toList.drop (zbw L).length).toArray 65 (0,0))->zeX W g L.length (zmj L q 0)):=fun W g hg=>zeX.start (by obtain⟨F,h1,T⟩:=zkC hg (yj _);exact⟨F,h1,T⟩);have b3:Hid (∀ (W:World) (g i:Nat),zeX W g L.length (zmj L q i)->i<L.length->inF L i q=true->zeX (W.setCell ⟨g,i*5+4,none⟩ (.bool true)) g L.length (zmj L q (i+1))):=fun W g i h1 T h3=>h1.yes T h3;have NO:Hid (∀ (W:World) (g i:Nat),zeX W g L.length (zmj L q i)->i<L.length->inF L i q=false->zeX W g L.length (zmj L q (i+1))):=fun W g i h1 T h3=>h1.no T h3
 have b1:Hid (∀ (W:World) (g:Nat),zeX W g L.length (zmj L q L.length)->zaP W (some ⟨g,0,none⟩) (zjW L q)):=fun W g ⟨F,h1,T⟩=>by
  rw[zvH] at T;exact zhC h1 (by rw[zdr];exact yj _) (fun m hm=>T m (by rw[zdr] at hm;exact hm))
 have U:Hid (∀ (W:World) (g i:Nat) (M:List Fr),zeX W g L.length M->i<L.length->(∃ u,W.cell? ⟨g,i*5+4,none⟩=some u)/\(∀ o,W.frozen? ⟨g,o,none⟩=false)/\g<W.heap.size):=fun W g i M ⟨F,h1,T⟩ hi=>⟨⟨_,h1.cell (by omega)⟩,h1.frozen,h1.lt⟩;generalize zbw L=cs at *;generalize zjW L q=DF at *;obtain⟨n,hn⟩:∃ n,L.length=n:=⟨_,rfl⟩;have HN:Hid (L.length=n):=hn;rw[hn] at hN D DW c7 a7 CP b3 NO b1 U |-;clear hn
 go_enter Tryz.func140,Tryz.ntmps140
 go_wp2_with fail
 refine ye D.out ?_;rintro e E ⟨rfl,a8⟩;have a5:Hid (Below w.heap.size w E):=a8;have b2:Hid (zaP E (some ⟨b,ao,none⟩) L):=HL.out.below a8;clear a8
 have HG:Hid ((E.alloc (.cells (madeCells zex (n*5)) 65)).heap[E.heap.size]?=some (.cells (madeCells zex (n*5)).toList.toArray 65 (0,0))):=by
  have:=yL E (.cells (madeCells zex (n*5)) 65);show _=_;simpa using this
 go_wp2_with (refine zcY rfl (.tmp 18) (.tmp 19) 22 22 rfl 65 i0 Tryz.underlying22 b9 E.heap.size 0 n n ⟨b,ao,none⟩ n c n ?hd ?hs (madeCells zex (n*5)).toList 65 ?hg cs ?hn ?hl ?hsrc ?hfit ?h1 ?_)
 case hd=>rfl
 case hs=>rfl
 case hg=>exact HG.out
 case hn=>show n=min n n;omega
 case hl=>rw[a7.out,c8]
 case hsrc=>exact b8.out _ (b2.out.below (zaa _ _))
 case hfit=>rw[a7.out];simp[size_madeCells]
 case h1=>exact b7.out
 intro w3 b5 b4;have b6:Hid (Below E.heap.size E w3):=b4 _ _ (zaa E _) (yj _);have HR:Hid (zeX w3 E.heap.size n (zmj L q 0)):=CP.out w3 _ b5;clear b5 b4 HG
 go_wp2_with fail
 go_loopg [23] n (fun g s23 wr=>∃ i:Nat,i<=n/\n-i<=g/\s23=.int .i64 i/\Hid (Below E.heap.size E wr)/\Hid (zeX wr E.heap.size n (zmj L q i)))
 case atStart=>exact⟨0,by omega,by omega,rfl,b6,HR⟩
 case round =>
  obtain⟨i,hi,hg,rfl,O,I⟩:=hrel;clear HR;by_cases a9:i<n
  ·have c9:(i:Int)<(n:Int):=(by omega);have DI:=DW.out i wr (b2.out.below O.out);obtain⟨⟨u,hu⟩,d4,d5⟩:=U.out wr _ i _ I.out a9
   cases hin:inF L (i:Int) (q:Int) with
   | true =>
    rw[hin] at DI;have Z:Hid _:=DI;have a6:Hid _:=b3.out wr _ i I.out a9 hin;clear hin DI
    go_wp2_with fail
    refine ye Z.out ?_;rintro e w4 ⟨rfl,J⟩;have b0:=J.symm;clear J;subst b0
    go_wp2_with fail
    go_roundg (n-(i+1))
    case measure=>omega
    case rel=>exact⟨i+1,by omega,by omega,by go_num,O.out.setCell (yj _) _,a6⟩
   | false =>
    rw[hin] at DI;have Z:Hid _:=DI;have a6:Hid _:=NO.out wr _ i I.out a9 hin;clear hin DI
    go_wp2_with fail
    refine ye Z.out ?_;rintro e w4 ⟨rfl,J⟩;have b0:=J.symm;clear J;subst b0
    go_wp2_with fail
    go_roundg (n-(i+1))
    case measure=>omega
    case rel=>exact⟨i+1,by omega,by omega,by go_num,O,a6⟩
  ·have c6:i=n:=(by omega);subst c6;have HF:Hid _:=b1.out wr _ I.out;clear I
   go_wp2_with fail
   exact yw (v:=.tuple #[.slice (some ⟨E.heap.size,0,none⟩) i i,.int .i64 0]) (by simp[results,Tryz.results140,go_sem]) rfl ⟨_,rfl,a5.out.trans (O.out.mono a5.out.size),a5.out.size,HF.out⟩
def zBj(L:List Fr)(k:Int):Int:=if zcv L k=0 then (zkn L k:Nat) else 0
theorem zrf(a:Option Addr)(c:Nat)(L:List Fr)(k:Int)(w:World)(F:L.length<=9223372036854775807)(E:zaP w a L) :
  yM 138 #[.slice a L.length c,.int .i64 k] w fun e w' => e=.returned (.tuple #[.int .i64 (zBj L k),.int .i64 (zcv L k)])/\Below w.heap.size w w' := by
 unfold zBj;by_cases D:zcv L k=0
 ·rw[yb D,D];exact ztB a c L k w (zfm D).1.few E D
 ·rw[ya D];exact zrg a c L k w F E D
end Go.Proofs.YtcbcpomacdngmaaGreat
