/-
  x
-/
import Derived.Test.YtojlkdekdbdpoaaGreatJDwdDwk
import Derived.Test.YtojlkdekdbdpoaaGreatJDfRaRbRh
namespace Go.Proofs.YtojlkdekdbdpoaaGreat
set_option maxRecDepth 100000
set_option maxHeartbeats 4000000
open Go.RowKit Go.ChangeShapes Go.WideShapes
set_option linter.unusedVariables false
theorem zdV{W:World}{b t:Nat}{v0 v1 v2 v3 v4 v5 v6 v7:Value}(h:W.heap[b]?=some (.cells #[v0,v1,v2,v3,v4,v5,v6,v7] t (0,0))):W.cell? ⟨b,0,none⟩=some v0∧W.cell? ⟨b,1,none⟩=some v1∧W.cell? ⟨b,2,none⟩=some v2∧W.cell? ⟨b,3,none⟩=some v3∧W.cell? ⟨b,4,none⟩=some v4∧W.cell? ⟨b,5,none⟩=some v5∧W.cell? ⟨b,6,none⟩=some v6∧W.cell? ⟨b,7,none⟩=some v7∧(∀ o,W.frozen? ⟨b,o,none⟩=false)∧b<W.heap.size :=
 ⟨by simp[World.cell?,h],by simp[World.cell?,h],by simp[World.cell?,h],by simp[World.cell?,h],by simp[World.cell?,h],by simp[World.cell?,h],by simp[World.cell?,h],by simp[World.cell?,h],fun o=>by simp[World.frozen?,h],zaz h⟩
theorem relNA{V V1 w3:World}(x:Nd)(kv:Value)(t:Nat)(bv:Below V.heap.size V V1)(b3:Below V1.heap.size V1 w3) :
  Hid (Below V.heap.size V (w3.alloc (.cells #[.bool x.u,.int .i64 x.n,.int .i64 x.t,.int .i64 x.m,.int .i64 x.p,kv,.int .i64 x.h,.bool x.c] t)))∧(w3.alloc (.cells #[.bool x.u,.int .i64 x.n,.int .i64 x.t,.int .i64 x.m,.int .i64 x.p,kv,.int .i64 x.h,.bool x.c] t)).cell? ⟨w3.heap.size,3,none⟩=some (.int .i64 x.m)∧(w3.alloc (.cells #[.bool x.u,.int .i64 x.n,.int .i64 x.t,.int .i64 x.m,.int .i64 x.p,kv,.int .i64 x.h,.bool x.c] t)).cell? ⟨w3.heap.size,4,none⟩=some (.int .i64 x.p)∧V.heap.size≤w3.heap.size:=by
 have b:=bv.trans (b3.mono bv.size)
 exact⟨b.trans ((zab _ _).mono b.size),zac _ _ _ 3 rfl,zac _ _ _ 4 rfl,b.size⟩
theorem znS{W:World}{b t:Nat}{z0 z1 z2 z3 z4 z5 z6 z7 u0 u1 u2 u3 u4 u5 u6 u7:Value}(h:W.heap[b]?=some (.cells #[z0,z1,z2,z3,z4,z5,z6,z7] t (0,0))):((((((((W.setCell ⟨b,0,none⟩ u0).setCell ⟨b,1,none⟩ u1).setCell ⟨b,2,none⟩ u2).setCell ⟨b,3,none⟩ u3).setCell ⟨b,4,none⟩ u4).setCell ⟨b,5,none⟩ u5).setCell ⟨b,6,none⟩ u6).setCell ⟨b,7,none⟩ u7).heap[b]?=some (.cells #[u0,u1,u2,u3,u4,u5,u6,u7] t (0,0)):=by
 have k0:(W.setCell ⟨b,0,none⟩ u0).heap[b]?=some (.cells #[u0,z1,z2,z3,z4,z5,z6,z7] t (0,0)):=zbn (i:=0) h
 generalize W.setCell ⟨b,0,none⟩ u0=W0 at k0 ⊢
 have k1:(W0.setCell ⟨b,1,none⟩ u1).heap[b]?=some (.cells #[u0,u1,z2,z3,z4,z5,z6,z7] t (0,0)):=zbn (i:=1) k0
 generalize W0.setCell ⟨b,1,none⟩ u1=W1 at k1 ⊢
 have k2:(W1.setCell ⟨b,2,none⟩ u2).heap[b]?=some (.cells #[u0,u1,u2,z3,z4,z5,z6,z7] t (0,0)):=zbn (i:=2) k1
 generalize W1.setCell ⟨b,2,none⟩ u2=W2 at k2 ⊢
 have k3:(W2.setCell ⟨b,3,none⟩ u3).heap[b]?=some (.cells #[u0,u1,u2,u3,z4,z5,z6,z7] t (0,0)):=zbn (i:=3) k2
 generalize W2.setCell ⟨b,3,none⟩ u3=W3 at k3 ⊢
 have k4:(W3.setCell ⟨b,4,none⟩ u4).heap[b]?=some (.cells #[u0,u1,u2,u3,u4,z5,z6,z7] t (0,0)):=zbn (i:=4) k3
 generalize W3.setCell ⟨b,4,none⟩ u4=W4 at k4 ⊢
 have k5:(W4.setCell ⟨b,5,none⟩ u5).heap[b]?=some (.cells #[u0,u1,u2,u3,u4,u5,z6,z7] t (0,0)):=zbn (i:=5) k4
 generalize W4.setCell ⟨b,5,none⟩ u5=W5 at k5 ⊢
 have k6:(W5.setCell ⟨b,6,none⟩ u6).heap[b]?=some (.cells #[u0,u1,u2,u3,u4,u5,u6,z7] t (0,0)):=zbn (i:=6) k5
 generalize W5.setCell ⟨b,6,none⟩ u6=W6 at k6 ⊢
 have k7:(W6.setCell ⟨b,7,none⟩ u7).heap[b]?=some (.cells #[u0,u1,u2,u3,u4,u5,u6,u7] t (0,0)):=zbn (i:=7) k6
 exact k7
theorem relNB{V V1 w3:World}{t:Nat}{z0 z1 z2 z3 z4 z5 z6 z7:Value}(x:Nd)(kv:Value)(bv:Below V.heap.size V V1)(b3:Below V1.heap.size V1 w3)(x3:w3.heap[V1.heap.size]?=some (.cells #[z0,z1,z2,z3,z4,z5,z6,z7] t (0,0))) :
  Hid (Below V.heap.size V ((((((((w3.setCell ⟨V1.heap.size,0,none⟩ (.bool x.u)).setCell ⟨V1.heap.size,1,none⟩ (.int .i64 x.n)).setCell ⟨V1.heap.size,2,none⟩ (.int .i64 x.t)).setCell ⟨V1.heap.size,3,none⟩ (.int .i64 x.m)).setCell ⟨V1.heap.size,4,none⟩ (.int .i64 x.p)).setCell ⟨V1.heap.size,5,none⟩ kv).setCell ⟨V1.heap.size,6,none⟩ (.int .i64 x.h)).setCell ⟨V1.heap.size,7,none⟩ (.bool x.c)))∧((((((((w3.setCell ⟨V1.heap.size,0,none⟩ (.bool x.u)).setCell ⟨V1.heap.size,1,none⟩ (.int .i64 x.n)).setCell ⟨V1.heap.size,2,none⟩ (.int .i64 x.t)).setCell ⟨V1.heap.size,3,none⟩ (.int .i64 x.m)).setCell ⟨V1.heap.size,4,none⟩ (.int .i64 x.p)).setCell ⟨V1.heap.size,5,none⟩ kv).setCell ⟨V1.heap.size,6,none⟩ (.int .i64 x.h)).setCell ⟨V1.heap.size,7,none⟩ (.bool x.c)).cell? ⟨V1.heap.size,3,none⟩=some (.int .i64 x.m)∧((((((((w3.setCell ⟨V1.heap.size,0,none⟩ (.bool x.u)).setCell ⟨V1.heap.size,1,none⟩ (.int .i64 x.n)).setCell ⟨V1.heap.size,2,none⟩ (.int .i64 x.t)).setCell ⟨V1.heap.size,3,none⟩ (.int .i64 x.m)).setCell ⟨V1.heap.size,4,none⟩ (.int .i64 x.p)).setCell ⟨V1.heap.size,5,none⟩ kv).setCell ⟨V1.heap.size,6,none⟩ (.int .i64 x.h)).setCell ⟨V1.heap.size,7,none⟩ (.bool x.c)).cell? ⟨V1.heap.size,4,none⟩=some (.int .i64 x.p)∧V.heap.size≤V1.heap.size:=by
 have b:=bv.trans (b3.mono bv.size)
 have s:=bv.size
 have k:=znS (u0:=.bool x.u) (u1:=.int .i64 x.n) (u2:=.int .i64 x.t) (u3:=.int .i64 x.m) (u4:=.int .i64 x.p) (u5:=kv) (u6:=.int .i64 x.h) (u7:=.bool x.c) x3
 obtain⟨_,_,_,c3,c4,_⟩:=zdV k
 exact⟨(((((((b.setCell s _).setCell s _).setCell s _).setCell s _).setCell s _).setCell s _).setCell s _).setCell s _,c3,c4,s⟩
theorem zik(w:World)(R:Rl)(x:Ac)(wf:WF R.s)(hl:R.hs.length=16)(ha:isH x.a):Deed 45 #[] w R x (aGet R (hd R x.a)):=fun d h g A V I=>by
 unfold aGet
 rw[ans_e]
 obtain⟨a0,a1,a2,a3,c0,c1,c2,c3⟩:=A
 obtain rfl:a0=some ⟨g,0,none⟩:=I.a0
 obtain rfl:a1=some ⟨h,0,none⟩:=I.a1
 obtain⟨xk,xa,xb,xc,xn⟩:=x
 obtain⟨p,hp,hp16⟩:=natH ha
 dsimp only at hp
 subst hp
 obtain⟨u0,u1⟩:=I.hand (k:=p) (by omega)
 have II:Hid (WI w R d h g _ V):=I
 have D:Hid (∀ W,Below V.heap.size V W→Calls Tryz.prog 87 #[.agg #[.slice (some ⟨g,0,none⟩) R.s.length c0],.agg #[.int .i64 (hd R (p:Int)).1,.int .i64 (hd R (p:Int)).2]] W fun e w' => ∃ (x:Nd) (ka:Option Addr) (kl kc:Nat),e=.returned (.tuple #[.agg #[.bool x.u,.int .i64 x.n,.int .i64 x.t,.int .i64 x.m,.int .i64 x.p,.slice ka kl kc,.int .i64 x.h,.bool x.c],.int .i64 (findE R.s (hd R (p:Int)).1 (hd R (p:Int)).2)])∧Below W.heap.size W w' ∧(findE R.s (hd R (p:Int)).1 (hd R (p:Int)).2=0→x=nd R.s (hd R (p:Int)).1.toNat)∧(findE R.s (hd R (p:Int)).1 (hd R (p:Int)).2≠0→x=zcC)):=fun W hW=>zfo R.s _ _ _ c0 W wf (I.nds.below hW)
 obtain⟨l0,l1,l2,l3,fz,lt⟩:=zaa I.box
 dsimp only at l0 l1 l2 l3
 rw[hl] at l1
 have hdv:d<V.heap.size:=lt
 have hhv:h<V.heap.size:=World.block_lt_of_cell? _ _ u0
 have hp2:(p:Int)<16:=by omega
 show Calls Tryz.prog _ #[.pointer (some ⟨d,0,none⟩),.agg #[.int .i64 xk,.int .i64 p,.int .i64 xb,.int .i64 xc,.int .i64 xn]] V _
 obtain⟨ns,hns⟩:∃ n,R.s.length=n:=⟨_,rfl⟩
 have HNS:Hid (R.s.length=ns):=hns
 clear ha hl
 generalize hd R (p:Int)=hh at *
 obtain⟨P,U⟩:=hh
 dsimp only at u0 u1 D ⊢
 obtain⟨E,hE⟩:∃ E,findE R.s P U=E:=⟨_,rfl⟩
 have HE:Hid (findE R.s P U=E):=hE
 rw[hE] at D ⊢
 clear hE
 rw[hns] at D l0
 clear hns I
 go_enter Tryz.func45,Tryz.ntmps45
 go_upto_region 1 with fail
 obtain⟨V1,hV1⟩:∃ V1,V.alloc (.cells #[.int .i64 xk,.int .i64 p,.int .i64 xb,.int .i64 xc,.int .i64 xn] 33)=V1:=⟨_,rfl⟩
 have BV:Hid (Below V.heap.size V V1):=by rw[← hV1];exact zab _ _
 have y0:V1.cell? ⟨V.heap.size,0,none⟩=some (.int .i64 xk):=by rw[← hV1];exact zac _ _ _ 0 rfl
 have y1:V1.cell? ⟨V.heap.size,1,none⟩=some (.int .i64 p):=by rw[← hV1];exact zac _ _ _ 1 rfl
 have y2:V1.cell? ⟨V.heap.size,2,none⟩=some (.int .i64 xb):=by rw[← hV1];exact zac _ _ _ 2 rfl
 have y3:V1.cell? ⟨V.heap.size,3,none⟩=some (.int .i64 xc):=by rw[← hV1];exact zac _ _ _ 3 rfl
 have y4:V1.cell? ⟨V.heap.size,4,none⟩=some (.int .i64 xn):=by rw[← hV1];exact zac _ _ _ 4 rfl
 have sV:V.heap.size<V1.heap.size:=World.block_lt_of_cell? _ _ y0
 rw[hV1]
 clear hV1
 replace u0:=keepC u0 BV.out
 replace u1:=keepC u1 BV.out
 replace l0:=keepC l0 BV.out
 replace l1:=keepC l1 BV.out
 replace l2:=keepC l2 BV.out
 replace l3:=keepC l3 BV.out
 have n0:¬ V1.heap.size=d:=by omega
 have o0:¬ d=V1.heap.size:=by omega
 have n1:¬ V1.heap.size=h:=by omega
 have o1:¬ h=V1.heap.size:=by omega
 have n2:¬ V1.heap.size=V.heap.size:=by omega
 have o2:¬ V.heap.size=V1.heap.size:=by omega
 have hvd:d<V1.heap.size:=by omega
 have hvh:h<V1.heap.size:=by omega
 clear fz lt
 go_cut [6,7] (fun s6 s7 wx=>∃ (b:Nat) (m pp:Int),s6=.pointer (some ⟨b,0,none⟩)∧s7=.int .i64 E∧Hid (Below V1.heap.size V1 wx)∧wx.cell? ⟨b,3,none⟩=some (.int .i64 m)∧wx.cell? ⟨b,4,none⟩=some (.int .i64 pp)∧V1.heap.size≤b∧Hid (E=0→m=(nd R.s P.toNat).m∧pp=(nd R.s P.toNat).p))
 case first =>
  go_region_held3 (fun w'' => w''.cell? ⟨d,0,none⟩=some (.slice (some ⟨g,0,none⟩) ns c0)∧w''.cell? ⟨d,1,none⟩=some (.slice (some ⟨h,0,none⟩) 16 c1)∧w''.cell? ⟨h,p*2,none⟩=some (.int .i64 P)∧w''.cell? ⟨h,p*2+1,none⟩=some (.int .i64 U)∧w''.cell? ⟨V.heap.size,1,none⟩=some (.int .i64 p)) (go_keep) (first|(go_at_call 87;refine Calls.mono (D.out V1.drew BV.out.drew) ?_;rintro e w5 ⟨nx,ka,kl,kc,rfl,hb3,hx1,hx2⟩;have B5:Hid (Below V1.heap.size V1 w5):=(Below.refl _ _).drew.trans hb3;have HX:Hid _:=hx1;have gl0:=keepC l0 B5.out;have gl1:=keepC l1 B5.out;have gu0:=keepC u0 B5.out;have gu1:=keepC u1 B5.out;have gy1:=keepC y1 B5.out;clear hb3 hx1 hx2)|(go_at_call 87;refine Calls.mono (D.out (V1.alloc (.cells #[.bool false,.int .i64 0,.int .i64 0,.int .i64 0,.int .i64 0,.slice none 0 0,.int .i64 0,.bool false] 44)).drew (BV.out.trans ((zab V1 _).mono BV.out.size)).drew) ?_;rintro e w5 ⟨nx,ka,kl,kc,rfl,hb3,hx1,hx2⟩;have B5:Hid (Below V1.heap.size V1 w5):=(zab V1 _).drew.trans (hb3.mono (by simp));have HX:Hid _:=hx1;have gl0:=keepC l0 B5.out;have gl1:=keepC l1 B5.out;have gu0:=keepC u0 B5.out;have gu1:=keepC u1 B5.out;have gy1:=keepC y1 B5.out;have X3:Hid (w5.heap[V1.heap.size]?=some (.cells #[.bool false,.int .i64 0,.int .i64 0,.int .i64 0,.int .i64 0,.slice none 0 0,.int .i64 0,.bool false] 44 (0,0))):=keepB (W:=(V1.alloc (.cells #[.bool false,.int .i64 0,.int .i64 0,.int .i64 0,.int .i64 0,.slice none 0 0,.int .i64 0,.bool false] 44)).drew) (heap_alloc_new V1 _) hb3;obtain⟨z0,z1,z2,z3,z4,z5,z6,z7,zf,zl⟩:=zdV X3.out;clear hb3 hx1 hx2))
  ·go_wp2_with fail
   go_meet
   case rel =>
    have r:=relNA nx (.slice ka kl kc) 44 (Below.refl V1.heap.size V1) B5.out
    exact⟨_,_,_,rfl,rfl,r.1,r.2.1,r.2.2.1,r.2.2.2,fun h=>by rw[HX.out h];exact⟨rfl,rfl⟩⟩
  ·go_wp2_with fail
   go_meet
   case rel =>
    have r:=relNB nx (.slice ka kl kc) (Below.refl V1.heap.size V1) B5.out X3.out
    exact⟨_,_,_,rfl,rfl,r.1,r.2.1,r.2.2.1,r.2.2.2,fun h=>by rw[HX.out h];exact⟨rfl,rfl⟩⟩
 case rest =>
  obtain⟨b,m,pp,rfl,rfl,HB,hm,hpp,hbl,HM⟩:=hcut
  have I2:Hid _:=II.out.below (BV.out.trans (HB.out.mono BV.out.size))
  clear II D u0 u1 l0 l1 l2 l3 y0 y1 y2 y3 y4
  go_wp2
  refine bodyPost_ret (v:=.tuple #[.int .i64 m,.int .i64 E]) (by simp[results,Tryz.results45,go_sem]) rfl ⟨m,rfl,I2.out.bel,fun hE=>?_⟩
  rw[ans_0 hE]
  exact⟨(HM.out hE).1,_,I2.out.box,I2.out.rl⟩
theorem zfK(F:Nat)(eg:∀ args w,(callFunc F args).run Tryz.prog w=.ok (.enter F args) w)(cb:Nat)(w:World)(hc:w.cell? ⟨cb,0,none⟩=some (.func (.func F) #[] #[]))(R:Rl)(x:Ac)(hl:R.hs.length=16)(ha:isH x.a)(E:Int)(N:Nat)
  (hF:∀ (a:Option Addr) (c:Nat) (W:World),NdsAt W a R.s→Calls Tryz.prog F #[.agg #[.slice a R.s.length c],hdV (hd R x.a),acV x] W fun e w' => ∃ a' c' n,e=.returned (.tuple #[.slice a' n c', .int .i64 E])∧Below W.heap.size W w' ∧(E=0→n=N)) :
  Deed 93 #[.pointer (some ⟨cb,0,none⟩)] w R x (ans E R N):=fun d h g A V I=>by
 rw[ans_e]
 obtain⟨a0,a1,a2,a3,c0,c1,c2,c3⟩:=A
 obtain rfl:a0=some ⟨g,0,none⟩:=I.a0
 obtain rfl:a1=some ⟨h,0,none⟩:=I.a1
 obtain⟨xk,xa,xb,xc,xn⟩:=x
 obtain⟨p,hp,hp16⟩:=natH ha
 dsimp only at hp
 subst hp
 obtain⟨u0,u1⟩:=I.hand (k:=p) (by omega)
 have II:Hid (WI w R d h g _ V):=I
 have D:Hid (∀ W,Below V.heap.size V W→Calls Tryz.prog F #[.agg #[.slice (some ⟨g,0,none⟩) R.s.length c0],.agg #[.int .i64 (hd R (p:Int)).1,.int .i64 (hd R (p:Int)).2],.agg #[.int .i64 xk,.int .i64 p,.int .i64 xb,.int .i64 xc,.int .i64 xn]] W fun e w' => ∃ a' c' n,e=.returned (.tuple #[.slice a' n c', .int .i64 E])∧Below W.heap.size W w' ∧(E=0→n=N)):=fun W hW=>hF (some ⟨g,0,none⟩) c0 W (I.nds.below hW)
 clear hF
 have k0:=(I.bel.cell (World.block_lt_of_cell? _ _ hc)).trans hc
 obtain⟨l0,l1,l2,l3,fz,lt⟩:=zaa I.box
 dsimp only at l0 l1 l2 l3
 rw[hl] at l1
 have hdv:d<V.heap.size:=lt
 have hhv:h<V.heap.size:=World.block_lt_of_cell? _ _ u0
 have hcv:cb<V.heap.size:=World.block_lt_of_cell? _ _ k0
 have hp2:(p:Int)<16:=by omega
 show Calls Tryz.prog _ #[.pointer (some ⟨d,0,none⟩),.agg #[.int .i64 xk,.int .i64 p,.int .i64 xb,.int .i64 xc,.int .i64 xn],.pointer (some ⟨cb,0,none⟩)] V _
 obtain⟨ns,hns⟩:∃ n,R.s.length=n:=⟨_,rfl⟩
 have HNS:Hid (R.s.length=ns):=hns
 clear ha hl
 generalize hd R (p:Int)=hh at *
 obtain⟨P,U⟩:=hh
 dsimp only at u0 u1 D ⊢
 rw[hns] at D l0
 clear hns I hc
 go_enter Tryz.func93,Tryz.ntmps93
 go_upto_region 1 with fail
 obtain⟨V1,hV1⟩:∃ V1,V.alloc (.cells #[.int .i64 xk,.int .i64 p,.int .i64 xb,.int .i64 xc,.int .i64 xn] 33)=V1:=⟨_,rfl⟩
 have BV:Hid (Below V.heap.size V V1):=by rw[← hV1];exact zab _ _
 have y0:V1.cell? ⟨V.heap.size,0,none⟩=some (.int .i64 xk):=by rw[← hV1];exact zac _ _ _ 0 rfl
 have y1:V1.cell? ⟨V.heap.size,1,none⟩=some (.int .i64 p):=by rw[← hV1];exact zac _ _ _ 1 rfl
 have y2:V1.cell? ⟨V.heap.size,2,none⟩=some (.int .i64 xb):=by rw[← hV1];exact zac _ _ _ 2 rfl
 have y3:V1.cell? ⟨V.heap.size,3,none⟩=some (.int .i64 xc):=by rw[← hV1];exact zac _ _ _ 3 rfl
 have y4:V1.cell? ⟨V.heap.size,4,none⟩=some (.int .i64 xn):=by rw[← hV1];exact zac _ _ _ 4 rfl
 have sV:V.heap.size<V1.heap.size:=World.block_lt_of_cell? _ _ y0
 rw[hV1]
 clear hV1
 replace u0:=keepC u0 BV.out
 replace u1:=keepC u1 BV.out
 replace l0:=keepC l0 BV.out
 replace l1:=keepC l1 BV.out
 replace l2:=keepC l2 BV.out
 replace l3:=keepC l3 BV.out
 replace k0:=keepC k0 BV.out
 have n0:¬ V1.heap.size=d:=by omega
 have o0:¬ d=V1.heap.size:=by omega
 have n1:¬ V1.heap.size=h:=by omega
 have o1:¬ h=V1.heap.size:=by omega
 have n2:¬ V1.heap.size=cb:=by omega
 have o2:¬ cb=V1.heap.size:=by omega
 have n3:¬ V1.heap.size=V.heap.size:=by omega
 have o3:¬ V.heap.size=V1.heap.size:=by omega
 have hvd:d<V1.heap.size:=by omega
 have hvh:h<V1.heap.size:=by omega
 have hvcb:cb<V1.heap.size:=by omega
 clear fz lt
 go_region_held3 (fun w'' => w''.cell? ⟨cb,0,none⟩=some (.func (.func F) #[] #[])∧w''.cell? ⟨d,0,none⟩=some (.slice (some ⟨g,0,none⟩) ns c0)∧w''.cell? ⟨d,1,none⟩=some (.slice (some ⟨h,0,none⟩) 16 c1)∧w''.cell? ⟨h,p*2,none⟩=some (.int .i64 P)∧w''.cell? ⟨h,p*2+1,none⟩=some (.int .i64 U)∧w''.cell? ⟨V.heap.size,0,none⟩=some (.int .i64 xk)∧w''.cell? ⟨V.heap.size,1,none⟩=some (.int .i64 p)∧w''.cell? ⟨V.heap.size,2,none⟩=some (.int .i64 xb)∧w''.cell? ⟨V.heap.size,3,none⟩=some (.int .i64 xc)∧w''.cell? ⟨V.heap.size,4,none⟩=some (.int .i64 xn)) (go_keep) (first|(refine Calls.mono (D.out V1.drew BV.out.drew) ?_;rintro e w3 ⟨a', c', n,rfl,hb3,hn3⟩;have B3:Hid (Below V1.heap.size V1 w3):=(Below.refl _ _).drew.trans hb3;have N3:Hid _:=hn3;have gk0:=keepC k0 B3.out;have gl0:=keepC l0 B3.out;have gl1:=keepC l1 B3.out;have gu0:=keepC u0 B3.out;have gu1:=keepC u1 B3.out;have gy0:=keepC y0 B3.out;have gy1:=keepC y1 B3.out;have gy2:=keepC y2 B3.out;have gy3:=keepC y3 B3.out;have gy4:=keepC y4 B3.out;clear hb3 hn3))
 have I2:Hid _:=II.out.below (BV.out.trans (B3.out.mono BV.out.size))
 clear II D u0 u1 l0 l1 l2 l3 k0 y0 y1 y2 y3 y4 gk0 gl0 gl1 gu0 gu1 gy0 gy1 gy2 gy3 gy4
 go_wp2
 refine bodyPost_ret (v:=.tuple #[.int .i64 n,.int .i64 E]) (by simp[results,Tryz.results93,go_sem]) rfl ⟨n,rfl,I2.out.bel,fun hE=>?_⟩
 rw[ans_0 hE]
 exact⟨by rw[N3.out hE],_,I2.out.box,I2.out.rl⟩
end Go.Proofs.YtojlkdekdbdpoaaGreat

namespace Go.Proofs.YtojlkdekdbdpoaaGreat
set_option maxRecDepth 100000
set_option maxHeartbeats 4000000
open Go.RowKit Go.ChangeShapes Go.WideShapes
set_option linter.unusedVariables false
theorem zph(F:Nat)(eg:∀ args w,(callFunc F args).run Tryz.prog w=.ok (.enter F args) w)(cb:Nat)(w:World)(hc:w.cell? ⟨cb,0,none⟩=some (.func (.func F) #[] #[]))(R:Rl)(x:Ac)(wf:WF R.s)(hl:R.hs.length=16)(ha:isH x.a)(E0 n:Int)(e0:E0≠0)
  (hF:∀ (a:Option Addr) (c:Nat) (W:World),ClsAt W a R.i→Calls Tryz.prog F #[.agg #[.slice a R.i.length c],.int .i64 x.n] W fun e w' => e=.returned (.tuple #[.int .i64 n,.int .i64 E0])∧Below W.heap.size W w') :
  Deed 92 #[.pointer (some ⟨cb,0,none⟩)] w R x (bad E0):=fun d h g A V I=>by
 rw[(ziN E0).2.2]
 have hz:(E0 == 0)=false:=by simp[e0]
 obtain⟨a0,a1,a2,a3,c0,c1,c2,c3⟩:=A
 obtain rfl:a0=some ⟨g,0,none⟩:=I.a0
 obtain rfl:a1=some ⟨h,0,none⟩:=I.a1
 obtain⟨xk,xa,xb,xc,xn⟩:=x
 obtain⟨p,hp,hp16⟩:=natH ha
 dsimp only at hp
 subst hp
 obtain⟨u0,u1⟩:=I.hand (k:=p) (by omega)
 have II:Hid (WI w R d h g _ V):=I
 have D:Hid (∀ W,Below V.heap.size V W→Calls Tryz.prog 87 #[.agg #[.slice (some ⟨g,0,none⟩) R.s.length c0],.agg #[.int .i64 (hd R (p:Int)).1,.int .i64 (hd R (p:Int)).2]] W fun e w' => ∃ (x:Nd) (ka:Option Addr) (kl kc:Nat),e=.returned (.tuple #[.agg #[.bool x.u,.int .i64 x.n,.int .i64 x.t,.int .i64 x.m,.int .i64 x.p,.slice ka kl kc,.int .i64 x.h,.bool x.c],.int .i64 (findE R.s (hd R (p:Int)).1 (hd R (p:Int)).2)])∧Below W.heap.size W w' ∧(findE R.s (hd R (p:Int)).1 (hd R (p:Int)).2=0→x=nd R.s (hd R (p:Int)).1.toNat)∧(findE R.s (hd R (p:Int)).1 (hd R (p:Int)).2≠0→x=zcC)):=fun W hW=>zfo R.s _ _ _ c0 W wf (I.nds.below hW)
 have DF:Hid (∀ W,Below V.heap.size V W→Calls Tryz.prog F #[.agg #[.slice a2 R.i.length c2],.int .i64 xn] W fun e w' => e=.returned (.tuple #[.int .i64 n,.int .i64 E0])∧Below W.heap.size W w'):=fun W hW=>hF a2 c2 W (I.cls.at.below hW)
 clear hF
 have k0:=(I.bel.cell (World.block_lt_of_cell? _ _ hc)).trans hc
 obtain⟨l0,l1,l2,l3,fz,lt⟩:=zaa I.box
 dsimp only at l0 l1 l2 l3
 rw[hl] at l1
 have hdv:d<V.heap.size:=lt
 have hhv:h<V.heap.size:=World.block_lt_of_cell? _ _ u0
 have hcv:cb<V.heap.size:=World.block_lt_of_cell? _ _ k0
 have hp2:(p:Int)<16:=by omega
 show Calls Tryz.prog _ #[.pointer (some ⟨d,0,none⟩),.agg #[.int .i64 xk,.int .i64 p,.int .i64 xb,.int .i64 xc,.int .i64 xn],.pointer (some ⟨cb,0,none⟩)] V _
 obtain⟨ns,hns⟩:∃ n,R.s.length=n:=⟨_,rfl⟩
 have HNS:Hid (R.s.length=ns):=hns
 clear ha hl
 generalize hd R (p:Int)=hh at *
 obtain⟨P,U⟩:=hh
 dsimp only at u0 u1 D ⊢
 obtain⟨ni,hni⟩:∃ n,R.i.length=n:=⟨_,rfl⟩
 rw[hni] at DF l2
 clear hni hc
 clear hns I
 go_enter Tryz.func92,Tryz.ntmps92
 go_upto_region 1 with fail
 obtain⟨V1,hV1⟩:∃ V1,V.alloc (.cells #[.int .i64 xk,.int .i64 p,.int .i64 xb,.int .i64 xc,.int .i64 xn] 33)=V1:=⟨_,rfl⟩
 have BV:Hid (Below V.heap.size V V1):=by rw[← hV1];exact zab _ _
 have y0:V1.cell? ⟨V.heap.size,0,none⟩=some (.int .i64 xk):=by rw[← hV1];exact zac _ _ _ 0 rfl
 have y1:V1.cell? ⟨V.heap.size,1,none⟩=some (.int .i64 p):=by rw[← hV1];exact zac _ _ _ 1 rfl
 have y2:V1.cell? ⟨V.heap.size,2,none⟩=some (.int .i64 xb):=by rw[← hV1];exact zac _ _ _ 2 rfl
 have y3:V1.cell? ⟨V.heap.size,3,none⟩=some (.int .i64 xc):=by rw[← hV1];exact zac _ _ _ 3 rfl
 have y4:V1.cell? ⟨V.heap.size,4,none⟩=some (.int .i64 xn):=by rw[← hV1];exact zac _ _ _ 4 rfl
 have sV:V.heap.size<V1.heap.size:=World.block_lt_of_cell? _ _ y0
 rw[hV1]
 clear hV1
 replace u0:=keepC u0 BV.out
 replace u1:=keepC u1 BV.out
 replace l0:=keepC l0 BV.out
 replace l1:=keepC l1 BV.out
 replace l2:=keepC l2 BV.out
 replace l3:=keepC l3 BV.out
 replace k0:=keepC k0 BV.out
 have n0:¬ V1.heap.size=d:=by omega
 have o0:¬ d=V1.heap.size:=by omega
 have n1:¬ V1.heap.size=h:=by omega
 have o1:¬ h=V1.heap.size:=by omega
 have n2:¬ V1.heap.size=cb:=by omega
 have o2:¬ cb=V1.heap.size:=by omega
 have n3:¬ V1.heap.size=V.heap.size:=by omega
 have o3:¬ V.heap.size=V1.heap.size:=by omega
 have hvd:d<V1.heap.size:=by omega
 have hvh:h<V1.heap.size:=by omega
 have hvcb:cb<V1.heap.size:=by omega
 clear fz lt
 go_region_held3 (fun w'' => w''.cell? ⟨cb,0,none⟩=some (.func (.func F) #[] #[])∧w''.cell? ⟨d,2,none⟩=some (.slice a2 ni c2)∧w''.cell? ⟨V.heap.size,4,none⟩=some (.int .i64 xn)) (go_keep) (first|(refine Calls.mono (DF.out V1.drew BV.out.drew) ?_;rintro e w2 ⟨rfl,hb3⟩;have B2:Hid (Below V1.heap.size V1 w2):=(Below.refl _ _).drew.trans hb3;have gk0:=keepC k0 B2.out;have gl2:=keepC l2 B2.out;have gy4:=keepC y4 B2.out;clear hb3))
 have I2:Hid _:=II.out.below (BV.out.trans (B2.out.mono BV.out.size))
 go_wp2
 exact bodyPost_ret (v:=.tuple #[.int .i64 0,.int .i64 E0]) (by simp[results,Tryz.results92,go_sem]) rfl ⟨0,rfl,I2.out.bel,fun hE=>absurd hE e0⟩
theorem zjx(F:Nat)(eg:∀ args w,(callFunc F args).run Tryz.prog w=.ok (.enter F args) w)(cb:Nat)(w:World)(hc:w.cell? ⟨cb,0,none⟩=some (.func (.func F) #[] #[]))(R:Rl)(x:Ac)(wf:WF R.s)(hl:R.hs.length=16)(ha:isH x.a)(n:Int)
  (hF:∀ (a:Option Addr) (c:Nat) (W:World),ClsAt W a R.i→Calls Tryz.prog F #[.agg #[.slice a R.i.length c],.int .i64 x.n] W fun e w' => e=.returned (.tuple #[.int .i64 n,.int .i64 0])∧Below W.heap.size W w') :
  Deed 92 #[.pointer (some ⟨cb,0,none⟩)] w R x (aSet R (hd R x.a) n):=fun d h g A V I=>by
 unfold aSet
 rw[ans_e]
 obtain⟨a0,a1,a2,a3,c0,c1,c2,c3⟩:=A
 obtain rfl:a0=some ⟨g,0,none⟩:=I.a0
 obtain rfl:a1=some ⟨h,0,none⟩:=I.a1
 obtain⟨xk,xa,xb,xc,xn⟩:=x
 obtain⟨p,hp,hp16⟩:=natH ha
 dsimp only at hp
 subst hp
 obtain⟨u0,u1⟩:=I.hand (k:=p) (by omega)
 have II:Hid (WI w R d h g _ V):=I
 have D:Hid (∀ W,Below V.heap.size V W→Calls Tryz.prog 87 #[.agg #[.slice (some ⟨g,0,none⟩) R.s.length c0],.agg #[.int .i64 (hd R (p:Int)).1,.int .i64 (hd R (p:Int)).2]] W fun e w' => ∃ (x:Nd) (ka:Option Addr) (kl kc:Nat),e=.returned (.tuple #[.agg #[.bool x.u,.int .i64 x.n,.int .i64 x.t,.int .i64 x.m,.int .i64 x.p,.slice ka kl kc,.int .i64 x.h,.bool x.c],.int .i64 (findE R.s (hd R (p:Int)).1 (hd R (p:Int)).2)])∧Below W.heap.size W w' ∧(findE R.s (hd R (p:Int)).1 (hd R (p:Int)).2=0→x=nd R.s (hd R (p:Int)).1.toNat)∧(findE R.s (hd R (p:Int)).1 (hd R (p:Int)).2≠0→x=zcC)):=fun W hW=>zfo R.s _ _ _ c0 W wf (I.nds.below hW)
 have DF:Hid (∀ W,Below V.heap.size V W→Calls Tryz.prog F #[.agg #[.slice a2 R.i.length c2],.int .i64 xn] W fun e w' => e=.returned (.tuple #[.int .i64 n,.int .i64 0])∧Below W.heap.size W w'):=fun W hW=>hF a2 c2 W (I.cls.at.below hW)
 clear hF
 have k0:=(I.bel.cell (World.block_lt_of_cell? _ _ hc)).trans hc
 obtain⟨l0,l1,l2,l3,fz,lt⟩:=zaa I.box
 dsimp only at l0 l1 l2 l3
 rw[hl] at l1
 have hdv:d<V.heap.size:=lt
 have hhv:h<V.heap.size:=World.block_lt_of_cell? _ _ u0
 have hcv:cb<V.heap.size:=World.block_lt_of_cell? _ _ k0
 have hp2:(p:Int)<16:=by omega
 show Calls Tryz.prog _ #[.pointer (some ⟨d,0,none⟩),.agg #[.int .i64 xk,.int .i64 p,.int .i64 xb,.int .i64 xc,.int .i64 xn],.pointer (some ⟨cb,0,none⟩)] V _
 obtain⟨ns,hns⟩:∃ n,R.s.length=n:=⟨_,rfl⟩
 have HNS:Hid (R.s.length=ns):=hns
 clear ha hl
 generalize hd R (p:Int)=hh at *
 obtain⟨P,U⟩:=hh
 dsimp only at u0 u1 D ⊢
 obtain⟨ni,hni⟩:∃ n,R.i.length=n:=⟨_,rfl⟩
 rw[hni] at DF l2
 clear hni hc
 obtain⟨E,hE⟩:∃ E,findE R.s P U=E:=⟨_,rfl⟩
 have HE:Hid (findE R.s P U=E):=hE
 obtain⟨M,hM⟩:∃ M,mrkE R.s P U n=M:=⟨_,rfl⟩
 have HM:Hid (mrkE R.s P U n=M):=hM
 rw[hE] at D
 rw[hM]
 clear hE hM
 rw[hns] at D l0
 clear hns I
 have DW:Hid (∀ W,Calls _ _ _ _ _):=fun W=>zaU n (-1000000) 1000000 W
 go_enter Tryz.func92,Tryz.ntmps92
 go_upto_region 1 with fail
 obtain⟨V1,hV1⟩:∃ V1,V.alloc (.cells #[.int .i64 xk,.int .i64 p,.int .i64 xb,.int .i64 xc,.int .i64 xn] 33)=V1:=⟨_,rfl⟩
 have BV:Hid (Below V.heap.size V V1):=by rw[← hV1];exact zab _ _
 have y0:V1.cell? ⟨V.heap.size,0,none⟩=some (.int .i64 xk):=by rw[← hV1];exact zac _ _ _ 0 rfl
 have y1:V1.cell? ⟨V.heap.size,1,none⟩=some (.int .i64 p):=by rw[← hV1];exact zac _ _ _ 1 rfl
 have y2:V1.cell? ⟨V.heap.size,2,none⟩=some (.int .i64 xb):=by rw[← hV1];exact zac _ _ _ 2 rfl
 have y3:V1.cell? ⟨V.heap.size,3,none⟩=some (.int .i64 xc):=by rw[← hV1];exact zac _ _ _ 3 rfl
 have y4:V1.cell? ⟨V.heap.size,4,none⟩=some (.int .i64 xn):=by rw[← hV1];exact zac _ _ _ 4 rfl
 have sV:V.heap.size<V1.heap.size:=World.block_lt_of_cell? _ _ y0
 rw[hV1]
 clear hV1
 replace u0:=keepC u0 BV.out
 replace u1:=keepC u1 BV.out
 replace l0:=keepC l0 BV.out
 replace l1:=keepC l1 BV.out
 replace l2:=keepC l2 BV.out
 replace l3:=keepC l3 BV.out
 replace k0:=keepC k0 BV.out
 have n0:¬ V1.heap.size=d:=by omega
 have o0:¬ d=V1.heap.size:=by omega
 have n1:¬ V1.heap.size=h:=by omega
 have o1:¬ h=V1.heap.size:=by omega
 have n2:¬ V1.heap.size=cb:=by omega
 have o2:¬ cb=V1.heap.size:=by omega
 have n3:¬ V1.heap.size=V.heap.size:=by omega
 have o3:¬ V.heap.size=V1.heap.size:=by omega
 have hvd:d<V1.heap.size:=by omega
 have hvh:h<V1.heap.size:=by omega
 have hvcb:cb<V1.heap.size:=by omega
 clear fz lt
 go_region_held3 (fun w'' => w''.cell? ⟨cb,0,none⟩=some (.func (.func F) #[] #[])∧w''.cell? ⟨d,2,none⟩=some (.slice a2 ni c2)∧w''.cell? ⟨V.heap.size,4,none⟩=some (.int .i64 xn)) (go_keep) (first|(refine Calls.mono (DF.out V1.drew BV.out.drew) ?_;rintro e w2 ⟨rfl,hb3⟩;have B2:Hid (Below V1.heap.size V1 w2):=(Below.refl _ _).drew.trans hb3;have gk0:=keepC k0 B2.out;have gl2:=keepC l2 B2.out;have gy4:=keepC y4 B2.out;clear hb3))
 replace u0:=keepC u0 B2.out
 replace u1:=keepC u1 B2.out
 replace l0:=keepC l0 B2.out
 replace l1:=keepC l1 B2.out
 replace y1:=keepC y1 B2.out
 have s3:=B2.out.size
 have q0:d<w2.heap.size:=by omega
 have q1:h<w2.heap.size:=by omega
 have q2:V.heap.size<w2.heap.size:=by omega
 have e0:¬ w2.heap.size=d:=by omega
 have e1:¬ w2.heap.size=h:=by omega
 have e2:¬ w2.heap.size=V.heap.size:=by omega
 have e3:¬ d=w2.heap.size:=by omega
 have e4:¬ h=w2.heap.size:=by omega
 have e5:¬ V.heap.size=w2.heap.size:=by omega
 have BV2:Hid (Below V.heap.size V w2):=BV.out.trans (B2.out.mono BV.out.size)
 clear gk0 gl2 gy4 k0 l2 l3 y0 y2 y3 y4 n0 n1 n2 n3 o0 o1 o2 o3 hvd hvh hvcb DF B2 BV
 go_wp2_with fail
 go_region_held3 (fun w'' => w''.cell? ⟨d,1,none⟩=some (.slice (some ⟨h,0,none⟩) 16 c1)∧w''.cell? ⟨h,p*2,none⟩=some (.int .i64 P)∧w''.cell? ⟨h,p*2+1,none⟩=some (.int .i64 U)∧w''.cell? ⟨V.heap.size,1,none⟩=some (.int .i64 p)) (go_keep) (fail)
 go_upto_region 5 with fail
 obtain⟨V4,hV4⟩:∃ V4,(w2.alloc (.cells #[.int .i64 P,.int .i64 U] 60)).drew=V4:=⟨_,rfl⟩
 have B4:Hid (Below w2.heap.size w2 V4):=by rw[← hV4];exact(zab _ _).drew
 have BV4:Hid (Below V.heap.size V V4):=BV2.out.trans (B4.out.mono BV2.out.size)
 have X4:Hid (V4.heap[w2.heap.size]?=some (.cells #[.int .i64 P,.int .i64 U] 60 (0,0))):=by rw[← hV4];exact heap_alloc_new w2 _
 rw[hV4]
 clear hV4
 obtain⟨j0,j1,jl⟩:=zbS X4.out
 replace l0:=keepC l0 B4.out
 have s4:=B4.out.size
 have hvd:d<V4.heap.size:=by omega
 have n0:¬ V4.heap.size=d:=by omega
 have o0:¬ d=V4.heap.size:=by omega
 have n1:¬ V4.heap.size=w2.heap.size:=by omega
 have o1:¬ w2.heap.size=V4.heap.size:=by omega
 clear u0 u1 l1 y1 e0 e1 e2 e3 e4 e5
 go_cut [10,11] (fun s10 s11 wx=>∃ (b:Nat) (m pp:Int),s10=.pointer (some ⟨b,0,none⟩)∧s11=.int .i64 E∧Hid (Below V4.heap.size V4 wx)∧wx.cell? ⟨b,3,none⟩=some (.int .i64 m)∧wx.cell? ⟨b,4,none⟩=some (.int .i64 pp)∧V4.heap.size≤b∧Hid (E=0→m=(nd R.s P.toNat).m∧pp=(nd R.s P.toNat).p))
 case first =>
  go_region_held3 (fun w'' => w''.cell? ⟨d,0,none⟩=some (.slice (some ⟨g,0,none⟩) ns c0)∧w''.cell? ⟨w2.heap.size,0,none⟩=some (.int .i64 P)∧w''.cell? ⟨w2.heap.size,1,none⟩=some (.int .i64 U)) (go_keep) (first|(go_at_call 87;refine Calls.mono (D.out V4.drew BV4.out.drew) ?_;rintro e w5 ⟨nx,ka,kl,kc,rfl,hb3,hx1,hx2⟩;have B5:Hid (Below V4.heap.size V4 w5):=(Below.refl _ _).drew.trans hb3;have HX:Hid _:=hx1;have gl0:=keepC l0 B5.out;have gj0:=keepC j0 B5.out;have gj1:=keepC j1 B5.out;clear hb3 hx1 hx2)|(go_at_call 87;refine Calls.mono (D.out (V4.alloc (.cells #[.bool false,.int .i64 0,.int .i64 0,.int .i64 0,.int .i64 0,.slice none 0 0,.int .i64 0,.bool false] 44)).drew (BV4.out.trans ((zab V4 _).mono BV4.out.size)).drew) ?_;rintro e w5 ⟨nx,ka,kl,kc,rfl,hb3,hx1,hx2⟩;have B5:Hid (Below V4.heap.size V4 w5):=(zab V4 _).drew.trans (hb3.mono (by simp));have HX:Hid _:=hx1;have gl0:=keepC l0 B5.out;have gj0:=keepC j0 B5.out;have gj1:=keepC j1 B5.out;have X3:Hid (w5.heap[V4.heap.size]?=some (.cells #[.bool false,.int .i64 0,.int .i64 0,.int .i64 0,.int .i64 0,.slice none 0 0,.int .i64 0,.bool false] 44 (0,0))):=keepB (W:=(V4.alloc (.cells #[.bool false,.int .i64 0,.int .i64 0,.int .i64 0,.int .i64 0,.slice none 0 0,.int .i64 0,.bool false] 44)).drew) (heap_alloc_new V4 _) hb3;obtain⟨z0,z1,z2,z3,z4,z5,z6,z7,zf,zl⟩:=zdV X3.out;clear hb3 hx1 hx2))
  ·go_wp2_with fail
   go_meet
   case rel =>
    have r:=relNA nx (.slice ka kl kc) 44 (Below.refl V4.heap.size V4) B5.out
    exact⟨_,_,_,rfl,rfl,r.1,r.2.1,r.2.2.1,r.2.2.2,fun h=>by rw[HX.out h];exact⟨rfl,rfl⟩⟩
  ·go_wp2_with fail
   go_meet
   case rel =>
    have r:=relNB nx (.slice ka kl kc) (Below.refl V4.heap.size V4) B5.out X3.out
    exact⟨_,_,_,rfl,rfl,r.1,r.2.1,r.2.2.1,r.2.2.2,fun h=>by rw[HX.out h];exact⟨rfl,rfl⟩⟩
 case rest =>
  obtain⟨b,m,pp,rfl,rfl,HB,hm,hpp,hbl,HMM⟩:=hcut
  have I2:Hid _:=II.out.below (BV4.out.trans (HB.out.mono BV4.out.size))
  replace j0:=keepC j0 HB.out
  obtain⟨m0,m1,m2,m3,mf,ml⟩:=zaa I2.out.box
  dsimp only at m0
  rw[HNS.out] at m0
  clear j1 l0 II D hm hpp HMM m1 m2 m3
  by_cases hE:E=0
  ·subst hE
   by_cases hr:-1000000≤n∧n≤1000000
   ·obtain rfl:0=M:=by rw[← HM.out];unfold mrkE;rw[HE.out,if_pos rfl,if_pos hr]
    rw[decide_eq_true hr] at DW
    obtain⟨_,k,ek,hk,_⟩:=zbm HE.out
    subst ek
    have hkl:=hk
    rw[HNS.out] at hk
    have hk2:(k:Int)<(ns:Int):=by omega
    obtain⟨r0,r1⟩:(∃ v,wc.cell? ⟨g,k*8+3,none⟩=some v)∧∀ o,wc.frozen? ⟨g,o,none⟩=false:=by
     obtain⟨F,hF,_⟩:=I2.out.own
     exact⟨⟨_,hF.cell (by omega)⟩,hF.frozen⟩
    obtain⟨rv,r0⟩:=r0
    have HS:Hid _:=I2.out.setMark hkl n rfl
    go_wp2_with fail
    refine Calls.mono (DW.out _) ?_
    rintro e w6 ⟨rfl,hw6⟩
    have hw7:=hw6.symm
    clear hw6
    subst hw7
    go_wp2_with fail
    go_region
    go_wp2
    refine bodyPost_ret (v:=.tuple #[.int .i64 0,.int .i64 0]) (by simp[results,Tryz.results92,go_sem]) rfl ⟨0,rfl,HS.out.1.drew,?_⟩
    have e2:mrkS R.s (k:Int) n=R.s.set k { nd R.s k with m:=n }:=by unfold mrkS;rw[Int.toNat_natCast]
    rw[ans_0 rfl,e2]
    exact⟨rfl,_,HS.out.2.1,HS.out.2.2.below (Below.refl _ _).drew⟩
   ·obtain rfl:2=M:=by rw[← HM.out];unfold mrkE;rw[HE.out,if_pos rfl,if_neg hr]
    rw[decide_eq_false hr] at DW
    go_wp2_with fail
    refine Calls.mono (DW.out _) ?_
    rintro e w6 ⟨rfl,hw6⟩
    have hw7:=hw6.symm
    clear hw6
    subst hw7
    go_wp2
    exact bodyPost_ret (v:=.tuple #[.int .i64 0,.int .i64 2]) (by simp[results,Tryz.results92,go_sem]) rfl ⟨0,rfl,I2.out.bel,fun hE=>absurd hE (by decide)⟩
  ·obtain rfl:E=M:=by rw[← HM.out];unfold mrkE;rw[HE.out,if_neg hE]
   have hz:(E == 0)=false:=by simp[hE]
   go_wp2
   exact bodyPost_ret (v:=.tuple #[.int .i64 0,.int .i64 E]) (by simp[results,Tryz.results92,go_sem]) rfl ⟨0,rfl,I2.out.bel,fun h=>absurd h hE⟩
theorem zgQ(a:Option Addr)(l c:Nat)(n:Int)(W:World):Calls Tryz.prog 47 #[.agg #[.slice a l c],.int .i64 n] W fun e w' => e=.returned (.tuple #[.int .i64 n,.int .i64 0])∧Below W.heap.size W w' := by
 go_enter Tryz.func47,Tryz.ntmps47
 go_wp2
 exact bodyPost_ret (v:=.tuple #[.int .i64 n,.int .i64 0]) (by simp[results,Tryz.results47,go_sem]) rfl ⟨rfl,zab _ _⟩
theorem zfV(a:Option Addr)(c:Nat)(G:List Cl)(k:Nat)(W:World)(hG:ClsAt W a G)(hk:k<G.length)(hl:G.length≤24):Calls Tryz.prog 48 #[.agg #[.slice a G.length c],.int .i64 (k:Int)] W fun e w' => e=.returned (.tuple #[.int .i64 (cl G k).n,.int .i64 0])∧Below W.heap.size W w' := by
 obtain⟨b,o,rfl,c0,_⟩:=hG k hk
 obtain⟨l,hll⟩:∃ l,G.length=l:=⟨_,rfl⟩
 rw[hll] at hk hl ⊢
 clear hll hG
 obtain⟨Q,hQ⟩:∃ Q:Int,(l:Int)-1=Q:=⟨_,rfl⟩
 have hwr:IntKind.i64.wrap ((l:Int)-1)=Q:=by rw[IntKind.wrap_i64,← hQ];omega
 have D:Hid (∀ W,Calls _ _ _ _ _):=fun W=>zcT (k:Int) 0 Q W (by omega) (by omega)
 have hk2:(k:Int)<(l:Int):=by omega
 have hbl:=World.block_lt_of_cell? _ _ c0
 clear hQ
 go_enter Tryz.func48,Tryz.ntmps48
 go_wp2_with fail
 refine Calls.mono (D.out _) ?_
 rintro e w1 ⟨rfl,hw⟩
 subst hw
 go_wp2
 exact bodyPost_ret (v:=.tuple #[.int .i64 (cl G k).n,.int .i64 0]) (by simp[results,Tryz.results48,go_sem]) rfl ⟨rfl,zab _ _⟩
theorem zgS(a:Option Addr)(l c:Nat)(n:Int)(W:World)(hn:¬ (0≤n∧n<l))(hl:l≤24):Calls Tryz.prog 48 #[.agg #[.slice a l c],.int .i64 n] W fun e w' => e=.returned (.tuple #[.int .i64 0,.int .i64 4])∧Below W.heap.size W w' := by
 obtain⟨Q,hQ⟩:∃ Q:Int,(l:Int)-1=Q:=⟨_,rfl⟩
 have hwr:IntKind.i64.wrap ((l:Int)-1)=Q:=by rw[IntKind.wrap_i64,← hQ];omega
 have D:Hid (∀ W,Calls _ _ _ _ _):=fun W=>zeu n 0 Q W (by omega)
 clear hQ hn
 go_enter Tryz.func48,Tryz.ntmps48
 go_wp2_with fail
 refine Calls.mono (D.out _) ?_
 rintro e w1 ⟨rfl,hw⟩
 subst hw
 go_wp2
 exact bodyPost_ret (v:=.tuple #[.int .i64 0,.int .i64 4]) (by simp[results,Tryz.results48,go_sem]) rfl ⟨rfl,zab _ _⟩
end Go.Proofs.YtojlkdekdbdpoaaGreat
