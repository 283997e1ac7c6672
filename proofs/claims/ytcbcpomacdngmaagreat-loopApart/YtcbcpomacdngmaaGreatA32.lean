/-
  x
-/
import Derived.Test.YtcbcpomacdngmaaGreatA31
namespace Go.Proofs.YtcbcpomacdngmaaGreat
set_option maxRecDepth 100000
set_option maxHeartbeats 4000000
set_option linter.unusedVariables false
open Go.RowKit Go.ChangeShapes Go.WideShapes Tryz
variable{t b:Nat}{J M D E F I:Value}{W V w3:Wd}
theorem vW{v1 v2:Value}(h:W.heap[b]?=some (.cells #[D,v1,v2,E,F,I,J,M] t (0,0))):W.cell? ⟨b,0,none⟩=some D/\W.cell? ⟨b,1,none⟩=some v1/\W.cell? ⟨b,2,none⟩=some v2/\W.cell? ⟨b,3,none⟩=some E/\W.cell? ⟨b,4,none⟩=some F/\W.cell? ⟨b,5,none⟩=some I/\W.cell? ⟨b,6,none⟩=some J/\W.cell? ⟨b,7,none⟩=some M/\(∀ o,W.frozen? ⟨b,o,none⟩=false)/\b<W.heap.size :=
 ⟨by simp[World.cell?,h],by simp[World.cell?,h],by simp[World.cell?,h],by simp[World.cell?,h],by simp[World.cell?,h],by simp[World.cell?,h],by simp[World.cell?,h],by simp[World.cell?,h],fun o=>by simp[World.frozen?,h],aR h⟩
theorem zP{D:Wd}(x:Nd)(kv:Value)(t:Nat)(E:Bl V D)(F:Bl D w3) :
  Hid (Bl V (w3.alloc (.cells #[.bool x.u,.int .i64 x.n,.int .i64 x.t,.int .i64 x.m,.int .i64 x.p,kv,.int .i64 x.h,.bool x.c] t)))/\(w3.alloc (.cells #[.bool x.u,.int .i64 x.n,.int .i64 x.t,.int .i64 x.m,.int .i64 x.p,kv,.int .i64 x.h,.bool x.c] t)).cell? ⟨w3.heap.size,3,none⟩=some (.int .i64 x.m)/\(w3.alloc (.cells #[.bool x.u,.int .i64 x.n,.int .i64 x.t,.int .i64 x.m,.int .i64 x.p,kv,.int .i64 x.h,.bool x.c] t)).cell? ⟨w3.heap.size,4,none⟩=some (.int .i64 x.p)/\V.heap.size<=w3.heap.size:=by
 have b:=E.trans (F.mono E.size);exact⟨b.trans ((aB _ _).mono b.size),aK _ _ _ 3 rfl,aK _ _ _ 4 rfl,b.size⟩
theorem Tx{z0 z1 u0 u1 u2 u3 u4 u5 u6 u7:Value}(h:W.heap[b]?=some (.cells #[z0,z1,M,J,I,F,E,D] t (0,0))):((((((((W.setCell ⟨b,0,none⟩ u0).setCell ⟨b,1,none⟩ u1).setCell ⟨b,2,none⟩ u2).setCell ⟨b,3,none⟩ u3).setCell ⟨b,4,none⟩ u4).setCell ⟨b,5,none⟩ u5).setCell ⟨b,6,none⟩ u6).setCell ⟨b,7,none⟩ u7).heap[b]?=some (.cells #[u0,u1,u2,u3,u4,u5,u6,u7] t (0,0)):=by
 have k0:(W.setCell ⟨b,0,none⟩ u0).heap[b]?=some (.cells #[u0,z1,M,J,I,F,E,D] t (0,0)):=bR (i:=0) h;generalize W.setCell ⟨b,0,none⟩ u0=W0 at k0 |-;have k1:(W0.setCell ⟨b,1,none⟩ u1).heap[b]?=some (.cells #[u0,u1,M,J,I,F,E,D] t (0,0)):=bR (i:=1) k0;generalize W0.setCell ⟨b,1,none⟩ u1=O at k1 |-;have k2:(O.setCell ⟨b,2,none⟩ u2).heap[b]?=some (.cells #[u0,u1,u2,J,I,F,E,D] t (0,0)):=bR (i:=2) k1;generalize O.setCell ⟨b,2,none⟩ u2=T at k2 |-;have k3:(T.setCell ⟨b,3,none⟩ u3).heap[b]?=some (.cells #[u0,u1,u2,u3,I,F,E,D] t (0,0)):=bR (i:=3) k2;generalize T.setCell ⟨b,3,none⟩ u3=U at k3 |-;have k4:(U.setCell ⟨b,4,none⟩ u4).heap[b]?=some (.cells #[u0,u1,u2,u3,u4,F,E,D] t (0,0)):=bR (i:=4) k3;generalize U.setCell ⟨b,4,none⟩ u4=Z at k4 |-;have k5:(Z.setCell ⟨b,5,none⟩ u5).heap[b]?=some (.cells #[u0,u1,u2,u3,u4,u5,E,D] t (0,0)):=bR (i:=5) k4;generalize Z.setCell ⟨b,5,none⟩ u5=W5 at k5 |-;have k6:(W5.setCell ⟨b,6,none⟩ u6).heap[b]?=some (.cells #[u0,u1,u2,u3,u4,u5,u6,D] t (0,0)):=bR (i:=6) k5;generalize W5.setCell ⟨b,6,none⟩ u6=W6 at k6 |-;have k7:(W6.setCell ⟨b,7,none⟩ u7).heap[b]?=some (.cells #[u0,u1,u2,u3,u4,u5,u6,u7] t (0,0)):=bR (i:=7) k6;exact k7
theorem zQ{D:Wd}{O T U Z z6 z7:Value}(x:Nd)(kv:Value)(E:Bl V D)(F:Bl D w3)(I:w3.heap[D.heap.size]?=some (.cells #[J,M,O,T,U,Z,z6,z7] t (0,0))) :
  Hid (Bl V ((((((((w3.setCell ⟨D.heap.size,0,none⟩ (.bool x.u)).setCell ⟨D.heap.size,1,none⟩ (.int .i64 x.n)).setCell ⟨D.heap.size,2,none⟩ (.int .i64 x.t)).setCell ⟨D.heap.size,3,none⟩ (.int .i64 x.m)).setCell ⟨D.heap.size,4,none⟩ (.int .i64 x.p)).setCell ⟨D.heap.size,5,none⟩ kv).setCell ⟨D.heap.size,6,none⟩ (.int .i64 x.h)).setCell ⟨D.heap.size,7,none⟩ (.bool x.c)))/\((((((((w3.setCell ⟨D.heap.size,0,none⟩ (.bool x.u)).setCell ⟨D.heap.size,1,none⟩ (.int .i64 x.n)).setCell ⟨D.heap.size,2,none⟩ (.int .i64 x.t)).setCell ⟨D.heap.size,3,none⟩ (.int .i64 x.m)).setCell ⟨D.heap.size,4,none⟩ (.int .i64 x.p)).setCell ⟨D.heap.size,5,none⟩ kv).setCell ⟨D.heap.size,6,none⟩ (.int .i64 x.h)).setCell ⟨D.heap.size,7,none⟩ (.bool x.c)).cell? ⟨D.heap.size,3,none⟩=some (.int .i64 x.m)/\((((((((w3.setCell ⟨D.heap.size,0,none⟩ (.bool x.u)).setCell ⟨D.heap.size,1,none⟩ (.int .i64 x.n)).setCell ⟨D.heap.size,2,none⟩ (.int .i64 x.t)).setCell ⟨D.heap.size,3,none⟩ (.int .i64 x.m)).setCell ⟨D.heap.size,4,none⟩ (.int .i64 x.p)).setCell ⟨D.heap.size,5,none⟩ kv).setCell ⟨D.heap.size,6,none⟩ (.int .i64 x.h)).setCell ⟨D.heap.size,7,none⟩ (.bool x.c)).cell? ⟨D.heap.size,4,none⟩=some (.int .i64 x.p)/\V.heap.size<=D.heap.size:=by
 have b:=E.trans (F.mono E.size);have s:=E.size;have k:=Tx (u0:=.bool x.u) (u1:=.int .i64 x.n) (u2:=.int .i64 x.t) (u3:=.int .i64 x.m) (u4:=.int .i64 x.p) (u5:=kv) (u6:=.int .i64 x.h) (u7:=.bool x.c) I;obtain⟨_,_,_,c3,c4,_⟩:=vW k;exact⟨(((((((b.setCell s _).setCell s _).setCell s _).setCell s _).setCell s _).setCell s _).setCell s _).setCell s _,c3,c4,s⟩
theorem Ty(w:Wd)(R:Rl)(x:Ac)(wf:WF R.s)(hl:R.hs.length=16)(ha:isH x.a):iK 169 #[] w R x (xP R (hd R x.a)):=fun d h g A V I=>by
 unfold xP;rw[pR];obtain⟨a0,a1,a2,a3,c0,c1,c2,c3⟩:=A;obtain rfl:a0=some ⟨g,0,none⟩:=I.a0;obtain rfl:a1=some ⟨h,0,none⟩:=I.a1;obtain⟨xk,xa,xb,xc,xn⟩:=x;obtain⟨p,hp,b3⟩:=iJ ha;dsimp only at hp;subst hp;obtain⟨u0,u1⟩:=I.hand (k:=p) oaa;have II:Hid (WI w R d h g _ V):=I;have D:Hid (∀ W,Bl V W->yO 14 #[.agg #[.slice (some ⟨g,0,none⟩) R.s.length c0],.agg #[.int .i64 (hd R (p:Int)).1,.int .i64 (hd R (p:Int)).2]] W fun e w' => ∃ (x:Nd) (ka:OA) (kl kc:Nat),e=.returned (.tuple #[.agg #[.bool x.u,.int .i64 x.n,.int .i64 x.t,.int .i64 x.m,.int .i64 x.p,.slice ka kl kc,.int .i64 x.h,.bool x.c],.int .i64 (aP R.s (hd R (p:Int)).1 (hd R (p:Int)).2)])/\Below W.heap.size W w' /\(aP R.s (hd R (p:Int)).1 (hd R (p:Int)).2=0->x=nd R.s (hd R (p:Int)).1.toNat)/\(aP R.s (hd R (p:Int)).1 (hd R (p:Int)).2≠0->x=oJ)):=fun W hW=>vK R.s _ _ _ c0 W wf (I.nds.below hW);obtain⟨l0,l1,l2,l3,fz,lt⟩:=aV I.box;dsimp only at l0 l1 l2 l3;rw[hl] at l1;have b6:d<V.heap.size:=lt;have b7:h<V.heap.size:=yi _ _ u0;have b8:(p:Int)<16:=oaa
 show yO _ #[.pointer (some ⟨d,0,none⟩),.agg #[.int .i64 xk,.int .i64 p,.int .i64 xb,.int .i64 xc,.int .i64 xn]] V _;obtain⟨ns,a6⟩:∃ n,R.s.length=n:=⟨_,rfl⟩;have b4:Hid (R.s.length=ns):=a6;clear ha hl;generalize hd R (p:Int)=hh at *;obtain⟨P,U⟩:=hh;dsimp only at u0 u1 D |-;obtain⟨E,hE⟩:∃ E,aP R.s P U=E:=⟨_,rfl⟩;have HE:Hid (aP R.s P U=E):=hE;rw[hE] at D |-;clear hE;rw[a6] at D l0;clear a6 I
 go_enter func169,ntmps169
 go_upto_region 1 with fail
 obtain⟨F,J⟩:∃ F,V.alloc (.cells #[.int .i64 xk,.int .i64 p,.int .i64 xb,.int .i64 xc,.int .i64 xn] 36)=F:=⟨_,rfl⟩;have T:Hid (Bl V F):=by rw[<- J];exact aB _ _
 have y0:F.cell? ⟨V.heap.size,0,none⟩=some (.int .i64 xk):=by rw[<- J];exact aK _ _ _ 0 rfl
 have y1:F.cell? ⟨V.heap.size,1,none⟩=some (.int .i64 p):=by rw[<- J];exact aK _ _ _ 1 rfl
 have y2:F.cell? ⟨V.heap.size,2,none⟩=some (.int .i64 xb):=by rw[<- J];exact aK _ _ _ 2 rfl
 have y3:F.cell? ⟨V.heap.size,3,none⟩=some (.int .i64 xc):=by rw[<- J];exact aK _ _ _ 3 rfl
 have y4:F.cell? ⟨V.heap.size,4,none⟩=some (.int .i64 xn):=by rw[<- J];exact aK _ _ _ 4 rfl
 have sV:V.heap.size<F.heap.size:=yi _ _ y0;rw[J];clear J;replace u0:=aA u0 T;replace u1:=aA u1 T;replace l0:=aA l0 T;replace l1:=aA l1 T;replace l2:=aA l2 T;replace l3:=aA l3 T;have n0:¬ F.heap.size=d:=oaa
 have o0:¬ d=F.heap.size:=oaa
 have n1:¬ F.heap.size=h:=oaa
 have o1:¬ h=F.heap.size:=oaa
 have n2:¬ F.heap.size=V.heap.size:=oaa
 have o2:¬ V.heap.size=F.heap.size:=oaa
 have c6:d<F.heap.size:=oaa
 have c7:h<F.heap.size:=oaa
 clear fz lt
 go_cut [6,7] (fun s6 s7 wx=>∃ (b:Nat) (m pp:Int),s6=.pointer (some ⟨b,0,none⟩)/\s7=.int .i64 E/\Hid (Bl F wx)/\wx.cell? ⟨b,3,none⟩=some (.int .i64 m)/\wx.cell? ⟨b,4,none⟩=some (.int .i64 pp)/\F.heap.size<=b/\Hid (E=0->m=(nd R.s P.toNat).m/\pp=(nd R.s P.toNat).p))
 case first =>
  go_region_held3 (fun a5=>a5.cell? ⟨d,0,none⟩=some (.slice (some ⟨g,0,none⟩) ns c0)/\a5.cell? ⟨d,1,none⟩=some (.slice (some ⟨h,0,none⟩) 16 c1)/\a5.cell? ⟨h,p*2,none⟩=some (.int .i64 P)/\a5.cell? ⟨h,p*2+1,none⟩=some (.int .i64 U)/\a5.cell? ⟨V.heap.size,1,none⟩=some (.int .i64 p)) (go_keep) (first|(go_at_call 14;refine yj (D F.drew T.drew) ?_;rintro e w5 ⟨nx,ka,kl,kc,rfl,O,Z,a7⟩;have M:Hid (Bl F w5):=(yv _ _).drew.trans O;have HX:Hid _:=Z;have a8:=aA l0 M;have a9:=aA l1 M;have b0:=aA u0 M;have b1:=aA u1 M;have b2:=aA y1 M;clear O Z a7)|(go_at_call 14;refine yj (D (F.alloc (.cells #[.bool false,.int .i64 0,.int .i64 0,.int .i64 0,.int .i64 0,.slice none 0 0,.int .i64 0,.bool false] 57)).drew (T.trans ((aB F _).mono T.size)).drew) ?_;rintro e w5 ⟨nx,ka,kl,kc,rfl,O,Z,a7⟩;have M:Hid (Bl F w5):=(aB F _).drew.trans (O.mono oac);have HX:Hid _:=Z;have a8:=aA l0 M;have a9:=aA l1 M;have b0:=aA u0 M;have b1:=aA u1 M;have b2:=aA y1 M;have X3:Hid (w5.heap[F.heap.size]?=some (.cells #[.bool false,.int .i64 0,.int .i64 0,.int .i64 0,.int .i64 0,.slice none 0 0,.int .i64 0,.bool false] 57 (0,0))):=aH (W:=(F.alloc (.cells #[.bool false,.int .i64 0,.int .i64 0,.int .i64 0,.int .i64 0,.slice none 0 0,.int .i64 0,.bool false] 57)).drew) (yN F _) O;obtain⟨z0,z1,z2,z3,z4,z5,z6,z7,zf,zl⟩:=vW X3.out;clear O Z a7))
  ·go_wp2_with fail
   go_meet
   case rel =>
    have r:=zP nx (.slice ka kl kc) 57 (yv F.heap.size F) M.out;exact⟨_,_,_,rfl,rfl,r.1,r.2.1,r.2.2.1,r.2.2.2,fun h=>by rw[HX.out h];exact⟨rfl,rfl⟩⟩
  ·go_wp2_with fail
   go_meet
   case rel =>
    have r:=zQ nx (.slice ka kl kc) (yv F.heap.size F) M.out X3.out;exact⟨_,_,_,rfl,rfl,r.1,r.2.1,r.2.2.1,r.2.2.2,fun h=>by rw[HX.out h];exact⟨rfl,rfl⟩⟩
 case rest =>
  obtain⟨b,m,pp,rfl,rfl,HB,hm,b9,b5,HM⟩:=hcut;have I2:Hid _:=II.below (T.trans (HB.mono T.size));clear II D u0 u1 l0 l1 l2 l3 y0 y1 y2 y3 y4
  go_wp2
  refine yz (v:=.tuple #[.int .i64 m,.int .i64 E]) (by simp[results,results169,go_sem]) rfl ⟨m,rfl,I2.bel,fun hE=>?_⟩;rw[pU hE];exact⟨(HM hE).1,_,I2.box,I2.rl⟩
theorem YK(F:Nat)(eg:∀ args w,(callFunc F args).run prog w=.ok (.enter F args) w)(cb:Nat)(w:Wd)(hc:w.cell? ⟨cb,0,none⟩=some (.func (.func F) #[] #[]))(R:Rl)(x:Ac)(hl:R.hs.length=16)(ha:isH x.a)(E:Int)(N:Nat)
  (hF:∀ (a:OA) (c:Nat) (W:Wd),aD W a R.s->yO F #[.agg #[.slice a R.s.length c],hdV (hd R x.a),acV x] W fun e w' => ∃ a' c' n,e=.returned (.tuple #[.slice a' n c', .int .i64 E])/\Below W.heap.size W w' /\(E=0->n=N)) :
  iK 188 #[.pointer (some ⟨cb,0,none⟩)] w R x (ans E R N):=fun d h g A V I=>by
 rw[pR];obtain⟨a0,a1,a2,a3,c0,c1,c2,c3⟩:=A;obtain rfl:a0=some ⟨g,0,none⟩:=I.a0;obtain rfl:a1=some ⟨h,0,none⟩:=I.a1;obtain⟨xk,xa,xb,xc,xn⟩:=x;obtain⟨p,hp,b8⟩:=iJ ha;dsimp only at hp;subst hp;obtain⟨u0,u1⟩:=I.hand (k:=p) oaa;have II:Hid (WI w R d h g _ V):=I;have D:Hid (∀ W,Bl V W->yO F #[.agg #[.slice (some ⟨g,0,none⟩) R.s.length c0],.agg #[.int .i64 (hd R (p:Int)).1,.int .i64 (hd R (p:Int)).2],.agg #[.int .i64 xk,.int .i64 p,.int .i64 xb,.int .i64 xc,.int .i64 xn]] W fun e w' => ∃ a' c' n,e=.returned (.tuple #[.slice a' n c', .int .i64 E])/\Below W.heap.size W w' /\(E=0->n=N)):=fun W hW=>hF (some ⟨g,0,none⟩) c0 W (I.nds.below hW);clear hF;have k0:=(I.bel.cell (yi _ _ hc)).trans hc;obtain⟨l0,l1,l2,l3,fz,lt⟩:=aV I.box;dsimp only at l0 l1 l2 l3;rw[hl] at l1;have c8:d<V.heap.size:=lt;have c9:h<V.heap.size:=yi _ _ u0;have c7:cb<V.heap.size:=yi _ _ k0;have d4:(p:Int)<16:=oaa
 show yO _ #[.pointer (some ⟨d,0,none⟩),.agg #[.int .i64 xk,.int .i64 p,.int .i64 xb,.int .i64 xc,.int .i64 xn],.pointer (some ⟨cb,0,none⟩)] V _;obtain⟨ns,a5⟩:∃ n,R.s.length=n:=⟨_,rfl⟩;have c6:Hid (R.s.length=ns):=a5;clear ha hl;generalize hd R (p:Int)=hh at *;obtain⟨P,U⟩:=hh;dsimp only at u0 u1 D |-;rw[a5] at D l0;clear a5 I hc
 go_enter func188,ntmps188
 go_upto_region 1 with fail
 obtain⟨J,O⟩:∃ J,V.alloc (.cells #[.int .i64 xk,.int .i64 p,.int .i64 xb,.int .i64 xc,.int .i64 xn] 36)=J:=⟨_,rfl⟩;have Z:Hid (Bl V J):=by rw[<- O];exact aB _ _
 have y0:J.cell? ⟨V.heap.size,0,none⟩=some (.int .i64 xk):=by rw[<- O];exact aK _ _ _ 0 rfl
 have y1:J.cell? ⟨V.heap.size,1,none⟩=some (.int .i64 p):=by rw[<- O];exact aK _ _ _ 1 rfl
 have y2:J.cell? ⟨V.heap.size,2,none⟩=some (.int .i64 xb):=by rw[<- O];exact aK _ _ _ 2 rfl
 have y3:J.cell? ⟨V.heap.size,3,none⟩=some (.int .i64 xc):=by rw[<- O];exact aK _ _ _ 3 rfl
 have y4:J.cell? ⟨V.heap.size,4,none⟩=some (.int .i64 xn):=by rw[<- O];exact aK _ _ _ 4 rfl
 have sV:V.heap.size<J.heap.size:=yi _ _ y0;rw[O];clear O;replace u0:=aA u0 Z;replace u1:=aA u1 Z;replace l0:=aA l0 Z;replace l1:=aA l1 Z;replace l2:=aA l2 Z;replace l3:=aA l3 Z;replace k0:=aA k0 Z;have n0:¬ J.heap.size=d:=oaa
 have o0:¬ d=J.heap.size:=oaa
 have n1:¬ J.heap.size=h:=oaa
 have o1:¬ h=J.heap.size:=oaa
 have n2:¬ J.heap.size=cb:=oaa
 have o2:¬ cb=J.heap.size:=oaa
 have n3:¬ J.heap.size=V.heap.size:=oaa
 have o3:¬ V.heap.size=J.heap.size:=oaa
 have d5:d<J.heap.size:=oaa
 have d6:h<J.heap.size:=oaa
 have b9:cb<J.heap.size:=oaa
 clear fz lt
 go_region_held3 (fun M=>M.cell? ⟨cb,0,none⟩=some (.func (.func F) #[] #[])/\M.cell? ⟨d,0,none⟩=some (.slice (some ⟨g,0,none⟩) ns c0)/\M.cell? ⟨d,1,none⟩=some (.slice (some ⟨h,0,none⟩) 16 c1)/\M.cell? ⟨h,p*2,none⟩=some (.int .i64 P)/\M.cell? ⟨h,p*2+1,none⟩=some (.int .i64 U)/\M.cell? ⟨V.heap.size,0,none⟩=some (.int .i64 xk)/\M.cell? ⟨V.heap.size,1,none⟩=some (.int .i64 p)/\M.cell? ⟨V.heap.size,2,none⟩=some (.int .i64 xb)/\M.cell? ⟨V.heap.size,3,none⟩=some (.int .i64 xc)/\M.cell? ⟨V.heap.size,4,none⟩=some (.int .i64 xn)) (go_keep) (first|(refine yj (D J.drew Z.drew) ?_;rintro e w3 ⟨a', c', n,rfl,a6,a7⟩;have T:Hid (Bl J w3):=(yv _ _).drew.trans a6;have N3:Hid _:=a7;have a8:=aA k0 T;have a9:=aA l0 T;have b0:=aA l1 T;have b1:=aA u0 T;have b2:=aA u1 T;have b3:=aA y0 T;have b4:=aA y1 T;have b5:=aA y2 T;have b6:=aA y3 T;have b7:=aA y4 T;clear a6 a7))
 have I2:Hid _:=II.below (Z.trans (T.mono Z.size));clear II D u0 u1 l0 l1 l2 l3 k0 y0 y1 y2 y3 y4 a8 a9 b0 b1 b2 b3 b4 b5 b6 b7
 go_wp2
 refine yz (v:=.tuple #[.int .i64 n,.int .i64 E]) (by simp[results,results188,go_sem]) rfl ⟨n,rfl,I2.bel,fun hE=>?_⟩;rw[pU hE];exact⟨by rw[N3.out hE],_,I2.box,I2.rl⟩
theorem Uh(w:Wd)(R:Rl)(x:Ac)(wf:WF R.s)(hl:R.hs.length=16)(ha:isH x.a)(b3:isH x.b):iK 179 #[] w R x (aUp R x.b (hd R x.a)):=fun d h g A V I=>by
 unfold aUp;rw[pR];obtain⟨a0,a1,a2,a3,c0,c1,c2,c3⟩:=A;obtain rfl:a0=some ⟨g,0,none⟩:=I.a0;obtain rfl:a1=some ⟨h,0,none⟩:=I.a1;obtain⟨xk,xa,xb,xc,xn⟩:=x;obtain⟨p,hp,c9⟩:=iJ ha;dsimp only at hp;subst hp;obtain⟨u0,u1⟩:=I.hand (k:=p) oaa;obtain⟨r,hr,d4⟩:=iJ b3;dsimp only at hr;subst hr;obtain⟨v0,v1⟩:=I.hand (k:=r) oaa;have II:Hid (WI w R d h g _ V):=I;have D:Hid (∀ W,Bl V W->yO 14 #[.agg #[.slice (some ⟨g,0,none⟩) R.s.length c0],.agg #[.int .i64 (hd R (p:Int)).1,.int .i64 (hd R (p:Int)).2]] W fun e w' => ∃ (x:Nd) (ka:OA) (kl kc:Nat),e=.returned (.tuple #[.agg #[.bool x.u,.int .i64 x.n,.int .i64 x.t,.int .i64 x.m,.int .i64 x.p,.slice ka kl kc,.int .i64 x.h,.bool x.c],.int .i64 (aP R.s (hd R (p:Int)).1 (hd R (p:Int)).2)])/\Below W.heap.size W w' /\(aP R.s (hd R (p:Int)).1 (hd R (p:Int)).2=0->x=nd R.s (hd R (p:Int)).1.toNat)/\(aP R.s (hd R (p:Int)).1 (hd R (p:Int)).2≠0->x=oJ)):=fun W hW=>vK R.s _ _ _ c0 W wf (I.nds.below hW);obtain⟨l0,l1,l2,l3,fz,lt⟩:=aV I.box;dsimp only at l0 l1 l2 l3;rw[hl] at l1;have d6:d<V.heap.size:=lt;have e1:h<V.heap.size:=yi _ _ u0;have e2:(p:Int)<16:=oaa
 have e4:(r:Int)<16:=oaa
 show yO _ #[.pointer (some ⟨d,0,none⟩),.agg #[.int .i64 xk,.int .i64 p,.int .i64 r,.int .i64 xc,.int .i64 xn]] V _;obtain⟨ns,a7⟩:∃ n,R.s.length=n:=⟨_,rfl⟩;have b0:Hid (R.s.length=ns):=a7;have HL:Hid (R.hs.length=16):=hl;clear v0 v1 b3;clear ha hl;generalize hd R (p:Int)=hh at *;obtain⟨P,U⟩:=hh;dsimp only at u0 u1 D |-;obtain⟨E,hE⟩:∃ E,aP R.s P U=E:=⟨_,rfl⟩;have HE:Hid (aP R.s P U=E):=hE;obtain⟨M,hM⟩:∃ M,upE R.s P U=M:=⟨_,rfl⟩;have HM:Hid (upE R.s P U=M):=hM;rw[hE] at D;rw[hM];clear hE hM;rw[a7] at D l0;clear a7 I
 go_enter func179,ntmps179
 go_upto_region 1 with fail
 obtain⟨F,J⟩:∃ F,V.alloc (.cells #[.int .i64 xk,.int .i64 p,.int .i64 r,.int .i64 xc,.int .i64 xn] 36)=F:=⟨_,rfl⟩;have Z:Hid (Bl V F):=by rw[<- J];exact aB _ _
 have y0:F.cell? ⟨V.heap.size,0,none⟩=some (.int .i64 xk):=by rw[<- J];exact aK _ _ _ 0 rfl
 have y1:F.cell? ⟨V.heap.size,1,none⟩=some (.int .i64 p):=by rw[<- J];exact aK _ _ _ 1 rfl
 have y2:F.cell? ⟨V.heap.size,2,none⟩=some (.int .i64 r):=by rw[<- J];exact aK _ _ _ 2 rfl
 have y3:F.cell? ⟨V.heap.size,3,none⟩=some (.int .i64 xc):=by rw[<- J];exact aK _ _ _ 3 rfl
 have y4:F.cell? ⟨V.heap.size,4,none⟩=some (.int .i64 xn):=by rw[<- J];exact aK _ _ _ 4 rfl
 have sV:V.heap.size<F.heap.size:=yi _ _ y0;rw[J];clear J;replace u0:=aA u0 Z;replace u1:=aA u1 Z;replace l0:=aA l0 Z;replace l1:=aA l1 Z;replace l2:=aA l2 Z;replace l3:=aA l3 Z;have n0:¬ F.heap.size=d:=oaa
 have o0:¬ d=F.heap.size:=oaa
 have n1:¬ F.heap.size=h:=oaa
 have o1:¬ h=F.heap.size:=oaa
 have n2:¬ F.heap.size=V.heap.size:=oaa
 have o2:¬ V.heap.size=F.heap.size:=oaa
 have e5:d<F.heap.size:=oaa
 have e6:h<F.heap.size:=oaa
 clear fz lt
 go_cut [6,7] (fun s6 s7 wx=>∃ (b:Nat) (m pp:Int),s6=.pointer (some ⟨b,0,none⟩)/\s7=.int .i64 E/\Hid (Bl F wx)/\wx.cell? ⟨b,3,none⟩=some (.int .i64 m)/\wx.cell? ⟨b,4,none⟩=some (.int .i64 pp)/\F.heap.size<=b/\Hid (E=0->m=(nd R.s P.toNat).m/\pp=(nd R.s P.toNat).p))
 case first =>
  go_region_held3 (fun a6=>a6.cell? ⟨d,0,none⟩=some (.slice (some ⟨g,0,none⟩) ns c0)/\a6.cell? ⟨d,1,none⟩=some (.slice (some ⟨h,0,none⟩) 16 c1)/\a6.cell? ⟨h,p*2,none⟩=some (.int .i64 P)/\a6.cell? ⟨h,p*2+1,none⟩=some (.int .i64 U)/\a6.cell? ⟨V.heap.size,1,none⟩=some (.int .i64 p)) (go_keep) (first|(go_at_call 14;refine yj (D F.drew Z.drew) ?_;rintro e w5 ⟨nx,ka,kl,kc,rfl,T,a5,a8⟩;have O:Hid (Bl F w5):=(yv _ _).drew.trans T;have HX:Hid _:=a5;have b5:=aA l0 O;have b6:=aA l1 O;have b7:=aA u0 O;have b8:=aA u1 O;have b9:=aA y1 O;clear T a5 a8)|(go_at_call 14;refine yj (D (F.alloc (.cells #[.bool false,.int .i64 0,.int .i64 0,.int .i64 0,.int .i64 0,.slice none 0 0,.int .i64 0,.bool false] 57)).drew (Z.trans ((aB F _).mono Z.size)).drew) ?_;rintro e w5 ⟨nx,ka,kl,kc,rfl,T,a5,a8⟩;have O:Hid (Bl F w5):=(aB F _).drew.trans (T.mono oac);have HX:Hid _:=a5;have b5:=aA l0 O;have b6:=aA l1 O;have b7:=aA u0 O;have b8:=aA u1 O;have b9:=aA y1 O;have X3:Hid (w5.heap[F.heap.size]?=some (.cells #[.bool false,.int .i64 0,.int .i64 0,.int .i64 0,.int .i64 0,.slice none 0 0,.int .i64 0,.bool false] 57 (0,0))):=aH (W:=(F.alloc (.cells #[.bool false,.int .i64 0,.int .i64 0,.int .i64 0,.int .i64 0,.slice none 0 0,.int .i64 0,.bool false] 57)).drew) (yN F _) T;obtain⟨z0,z1,z2,z3,z4,z5,z6,z7,zf,zl⟩:=vW X3.out;clear T a5 a8))
  ·go_wp2_with fail
   go_meet
   case rel =>
    have r:=zP nx (.slice ka kl kc) 57 (yv F.heap.size F) O.out;exact⟨_,_,_,rfl,rfl,r.1,r.2.1,r.2.2.1,r.2.2.2,fun h=>by rw[HX.out h];exact⟨rfl,rfl⟩⟩
  ·go_wp2_with fail
   go_meet
   case rel =>
    have r:=zQ nx (.slice ka kl kc) (yv F.heap.size F) O.out X3.out;exact⟨_,_,_,rfl,rfl,r.1,r.2.1,r.2.2.1,r.2.2.2,fun h=>by rw[HX.out h];exact⟨rfl,rfl⟩⟩
 case rest =>
  obtain⟨b,m,pp,rfl,rfl,HB,hm,e3,d5,a9⟩:=hcut;have I2:Hid _:=II.below (Z.trans (HB.mono Z.size));by_cases hE:E=0
  ·subst hE;obtain⟨_,k,ek,hk,c6,_⟩:=lC HE.out;subst ek;have hp:=(a9 rfl).2;rw[yk] at hp;have HU:Hid (0=0->M=if (nd R.s k).p = -1 then 6 else 0):=fun _=>by rw[<- HM.out];unfold upE;rw[HE.out,ye rfl,yk]
   by_cases hn:(nd R.s k).p = -1
   ·obtain rfl:M=6:=by have h:=HU.out rfl;rw[ye hn] at h;exact h
    obtain rfl:pp = -1:=hp.trans hn;clear II D u0 u1 l0 l1 l2 l3 y0 y1 y2 y3 y4 hp hn
    go_wp2
    refine yz (v:=.tuple #[.int .i64 0,.int .i64 6]) (by simp[results,results179,go_sem]) rfl ?_
    first|exact⟨⟨0,rfl⟩,I2.bel⟩|exact⟨0,rfl,I2.bel,fun hE=>absurd hE oae⟩
   ·obtain rfl:M=0:=by have h:=HU.out rfl;rw[yd hn] at h;exact h
    obtain⟨f,ef,hf,_⟩:=wf.parent_place hk hn;obtain rfl:pp=(f:Int):=hp.trans ef;have b1:Hid (upH R.s (k:Int)=((f:Int),(nd R.s f).n)):=by show _=_;unfold upH;rw[yk,ef,yk]
    have b4:wc.cell? ⟨g,f*8+1,none⟩=some (.int .i64 (nd R.s f).n):=by
     obtain⟨b', o', e,c0,c1,_⟩:=I2.nds f hf;cases e;rw[yD] at c1;exact c1
    have d9:g<wc.heap.size:=yi _ _ b4;obtain⟨m0,m1,m2,m3,mf,ml⟩:=aV I2.box;dsimp only at m0 m1;rw[HL.out] at m1;rw[b0.out] at m0;have d7:f<ns:=(by rw[<- b0.out];exact hf);have d8:(f:Int)<(ns:Int):=oaa;have c7:¬ ((f:Int) = -1):=oaa;have c8:((f:Int) == -1)=false:=(by simp[c7]);obtain⟨r0,r1⟩:=I2.hand (k:=r) (by rw[HL.out];omega);have rf:=I2.row.frozen;have e0:h<wc.heap.size:=yi _ _ r0;replace y2:=aA y2 HB;have HS:Hid _:=I2.setHand (k:=r) (by rw[HL.out];omega) ((f:Int),(nd R.s f).n) rfl;obtain⟨N1,b2⟩:∃ N1,(nd R.s f).n=N1:=⟨_,rfl⟩;rw[b2] at b4 HS b1;clear II D u0 u1 l0 l1 l2 l3 y0 y1 y3 y4 hp hn ef b2 hm a9 hk c6 hf HU
    go_wp2_with fail
    go_region
    go_wp2
    refine yz (v:=.tuple #[.int .i64 0,.int .i64 0]) (by simp[results,results179,go_sem]) rfl ⟨0,rfl,HS.out.1.drew,?_⟩;rw[pU rfl,b1.out];exact⟨rfl,_,HS.out.2.1,HS.out.2.2.below (yv _ _).drew⟩
  ·obtain rfl:M=E:=by rw[<- HM.out];unfold upE;rw[HE.out,yd hE]
   have hz:(M == 0)=false:=(by simp[hE]);clear II D u0 u1 l0 l1 l2 l3 y0 y1 y2 y3 y4
   go_wp2
   exact yz (v:=.tuple #[.int .i64 0,.int .i64 M]) (by simp[results,results179,go_sem]) rfl ⟨0,rfl,I2.bel,fun h=>absurd h hE⟩
theorem Ww(a:OA)(c:Nat)(L:List Fr)(k top:Int)(w:Wd)(I:L.length<=9223372036854775807)(F:aS w a L) :
  yO 163 #[.slice a L.length c,.int .i64 k,.int .i64 top] w fun e w' => e=.returned (.bool ((!decide (k=top)) && inF L k top))/\w' = w:=by
 have D:Hid _:=KG a c L k top w I F;clear F;generalize inF L k top=r at *;generalize L.length=n at *;by_cases h:k=top
 ·subst h;simp only[decide_true,Bool.not_true,Bool.false_and]
  go_enter func163,ntmps163
  go_wp2_with fail
  go_ret;exact⟨rfl,rfl⟩
 ·have h1:decide (k=top)=false:=yH h;have J:(k == top)=false:=by simp[h]
  have M:(k != top)=true:=by simp[h]
  rw[h1];simp only[Bool.not_false,Bool.true_and]
  go_enter func163,ntmps163
  go_wp2_with fail
  refine yj D.out ?_;rintro e w1 ⟨rfl,E⟩;subst E
  go_wp2_with fail
  go_ret;exact⟨rfl,rfl⟩
theorem Wx(a:OA)(c:Nat)(L:List Fr)(f t:Nat)(al:Bool)(nd:Int)(T:Bool)(w:Wd)(hN:L.length<=1000)(U:aS w a L)(hf:f<L.length)(ht:t<L.length) :
  yO 155 #[.agg #[.bool al,.int .i64 nd,.bool T],.slice a L.length c,.int .i64 (f:Int),.int .i64 (t:Int)] w fun e w' => e=.returned (.bool (yP L f t al nd T))/\Below w.heap.size w w' := by
 have D:Hid (∀ W,aS W a L->_):=fun W hW=>Ww a c L t f W oaa hW;have HL:Hid (aS w a L):=U;obtain⟨b,o,ea,f0,f1,f2,f3,f4⟩:=U f hf;obtain⟨b', o', O,t0,t1,t2,t3,t4⟩:=U t ht;rw[ea] at O;cases O;subst ea;have a8:b<w.heap.size:=yi _ _ f0;have a7:(f:Int)<(L.length:Int):=oaa
 have a9:(t:Int)<(L.length:Int):=oaa
 unfold yP;rw[yk,yk];clear U f0 f3 f4 t0 t2 t3 t4;generalize ((!decide ((t:Int)=(f:Int))) && inF L t f)=r at *;generalize fr L f=x at *;generalize fr L t=y at *;obtain⟨xp,Z,F,xt,xg⟩:=x;obtain⟨yp,yo,ym,yt,yg⟩:=y;dsimp only at f1 f2 t1 |-;generalize L.length=n at *;cases al
 ·simp only[Bool.not_false,Bool.true_or,Bool.true_and];by_cases J:bits .andNot .i64 nd F=0
  ·have E:decide (bits .andNot .i64 nd F=0)=true:=yI J;rw[E];simp only[Bool.true_and];cases T
   ·simp only[Bool.not_false,Bool.true_or]
    go_enter func155,ntmps155
    go_wp2_with fail
    go_big_quiet (fail)
    go_wp2_with fail
    go_big_quiet (fail)
    go_wp2_with fail
    go_ret;exact⟨rfl,dL (aB w _) _⟩
   ·simp only[Bool.not_true,Bool.false_or]
    go_enter func155,ntmps155
    go_wp2_with fail
    go_big_quiet (fail)
    go_wp2_with fail
    go_big_quiet (fail)
    go_wp2_with fail
    refine yj (D _ (HL.below (dL (aB w _) _))) ?_;rintro e w1 ⟨rfl,M⟩;subst M
    go_wp2_with fail
    go_ret;exact⟨rfl,dL (aB w _) _⟩
  ·have E:decide (bits .andNot .i64 nd F=0)=false:=yH J;have a5:(bits .andNot .i64 nd F != 0)=true:=(by simp[J]);rw[E];simp only[Bool.false_and]
   go_enter func155,ntmps155
   go_wp2_with fail
   go_big_quiet (fail)
   go_wp2_with fail
   go_big_quiet (fail)
   go_wp2_with fail
   go_ret;exact⟨rfl,dL (dL (aB w _) _) _⟩
 ·by_cases h1:Z=yo
  ·have I:decide (Z=yo)=true:=yI h1;rw[I];simp only[Bool.not_true,Bool.false_or,Bool.true_and];subst h1;by_cases J:bits .andNot .i64 nd F=0
   ·have E:decide (bits .andNot .i64 nd F=0)=true:=yI J;rw[E];simp only[Bool.true_and];cases T
    ·simp only[Bool.not_false,Bool.true_or]
     go_enter func155,ntmps155
     go_wp2_with fail
     go_big_quiet (fail)
     go_wp2_with fail
     go_big_quiet (fail)
     go_wp2_with fail
     go_ret;exact⟨rfl,dL (aB w _) _⟩
    ·simp only[Bool.not_true,Bool.false_or]
     go_enter func155,ntmps155
     go_wp2_with fail
     go_big_quiet (fail)
     go_wp2_with fail
     go_big_quiet (fail)
     go_wp2_with fail
     refine yj (D _ (HL.below (dL (aB w _) _))) ?_;rintro e w1 ⟨rfl,M⟩;subst M
     go_wp2_with fail
     go_ret;exact⟨rfl,dL (aB w _) _⟩
   ·have E:decide (bits .andNot .i64 nd F=0)=false:=yH J;have a5:(bits .andNot .i64 nd F != 0)=true:=(by simp[J]);rw[E];simp only[Bool.false_and]
    go_enter func155,ntmps155
    go_wp2_with fail
    go_big_quiet (fail)
    go_wp2_with fail
    go_big_quiet (fail)
    go_wp2_with fail
    go_ret;exact⟨rfl,dL (dL (aB w _) _) _⟩
  ·have I:decide (Z=yo)=false:=yH h1;have a6:(Z != yo)=true:=(by simp[h1]);rw[I];simp only[Bool.not_true,Bool.false_or,Bool.false_and]
   go_enter func155,ntmps155
   go_wp2_with fail
   go_big_quiet (fail)
   go_wp2_with fail
   go_ret;exact⟨rfl,dL (aB w _) _⟩
abbrev rv(r:Bool × Int × Bool):Value:=.agg #[.bool r.1,.int .i64 r.2.1,.bool r.2.2]
def iM(n:Int):Lit->Option Value
 | .int .i64 k=>if k<=n then (pG k).map rv else none
 | _=>none
theorem ZG(n k:Int):iM n (.int .i64 k)=if k<=n then (pG k).map rv else none:=rfl
theorem zU{n:Int}(j:Lit)(h:j≠.int .i64 (n+1)):iM (n+1) j=iM n j:=by
 unfold iM;split
 ·rename_i k;have E:k≠n+1:=fun e=>h (by rw[e]);by_cases D:k<=n
  ·rw[ye D,ye oaa]
  ·rw[yd D,yd oaa]
 ·rfl
theorem Wy(j:Lit):iM 0 j=none:=by
 unfold iM;split
 ·rename_i k;by_cases D:k<=0
  ·rw[ye D,KT.2 oaa];rfl
  ·rw[yd D]
 ·rfl
theorem tC{k:Int}(h:(Lit.int .i64 k).wf=true):keyOf prog 3 (.int .i64 k)=some (.int .i64 k):=Maps.keyOf_int_mk underlying3 h
theorem ZH(w:Wd) :
  yO 154 #[] w fun e w' => ∃ b,e=.returned (.map (some b))/\dU prog 3 w' b 5 (iM 5)/\Below w.heap.size w w' := by
 have a5:=@run_makeMap prog;have m0:dU prog 3 (w.alloc (.map #[] 0)) w.heap.size 0 (iM 0):=(dU.made prog 3 w).congr (fun kl _=>(Wy kl).symm);obtain⟨w1,p1,k1,g1⟩:=m0.put (Maps.int_keyed underlying3) (t:=201) underlying201 oai (tC (k:=1) oae) trivial (rv (true,0,false));have m1:=k1 (iM 1) rfl (fun j D=>zU (n:=0) j D);obtain⟨w2,p2,k2,g2⟩:=m1.put (Maps.int_keyed underlying3) (t:=201) underlying201 oai (tC (k:=2) oae) trivial (rv (false,0,false));have m2:=k2 (iM 2) rfl (fun j D=>zU (n:=1) j D);obtain⟨w3,p3,k3,g3⟩:=m2.put (Maps.int_keyed underlying3) (t:=201) underlying201 oai (tC (k:=3) oae) trivial (rv (false,2,false));have m3:=k3 (iM 3) rfl (fun j D=>zU (n:=2) j D);obtain⟨w4,p4,k4,T⟩:=m3.put (Maps.int_keyed underlying3) (t:=201) underlying201 oai (tC (k:=4) oae) trivial (rv (false,0,true));have m4:=k4 (iM 4) rfl (fun j D=>zU (n:=3) j D);obtain⟨w5,p5,k5,U⟩:=m4.put (Maps.int_keyed underlying3) (t:=201) underlying201 oai (tC (k:=5) oae) trivial (rv (false,0,true));have m5:=k5 (iM 5) rfl (fun j D=>zU (n:=4) j D);have up:∀ {x y:Wd},x.grownBy y (some w.heap.size)->w.heap.size<=x.heap.size->Below w.heap.size x y:=fun h _=>⟨h.os,h.tape,h.output,h.size,fun k hk=>h.block k oaa (by intro e;have:=Option.some.inj e;omega)⟩
 have E:Bl w (w.alloc (.map #[] 0)):=aB w _;have F:=E.trans (up g1 E.size);have I:=F.trans (up g2 F.size);have J:=I.trans (up g3 I.size);have O:=J.trans (up T J.size);have z5:=O.trans (up U O.size);have M:Hid (dU prog 3 w5 w.heap.size 5 (iM 5)):=m5;have Z:Hid (Bl w w5):=z5;clear m0 m1 m2 m3 m4 m5 k1 k2 k3 k4 k5 g1 g2 g3 T U E F I J O z5 up;dsimp only[rv] at p1 p2 p3 p4 p5
 go_enter func154,ntmps154
 go_wp2_with fail
 go_ret;exact⟨_,rfl,M.out,Z.out⟩
