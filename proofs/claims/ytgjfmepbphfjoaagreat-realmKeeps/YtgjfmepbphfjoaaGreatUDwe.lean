/-
  Deeds that tell: tellMark, tellHowMany.
-/
import Derived.Test.YtgjfmepbphfjoaaGreatUDwcDwd
import Derived.Test.YtgjfmepbphfjoaaGreatUDf
namespace Go.Proofs.YtgjfmepbphfjoaaGreat
open Go.RowKit Go.ChangeShapes Go.WideShapes
set_option linter.unusedVariables false

theorem box8_facts {W : World} {b t : Nat} {v0 v1 v2 v3 v4 v5 v6 v7 : Value} (h : W.heap[b]? = some (.cells #[v0, v1, v2, v3, v4, v5, v6, v7] t (0, 0))) : W.cell? ⟨b, 0, none⟩ = some v0 ∧ W.cell? ⟨b, 1, none⟩ = some v1 ∧ W.cell? ⟨b, 2, none⟩ = some v2 ∧ W.cell? ⟨b, 3, none⟩ = some v3 ∧ W.cell? ⟨b, 4, none⟩ = some v4 ∧ W.cell? ⟨b, 5, none⟩ = some v5 ∧ W.cell? ⟨b, 6, none⟩ = some v6 ∧ W.cell? ⟨b, 7, none⟩ = some v7 ∧ (∀ o, W.frozen? ⟨b, o, none⟩ = false) ∧ b < W.heap.size :=
  ⟨by simp [World.cell?, h], by simp [World.cell?, h], by simp [World.cell?, h], by simp [World.cell?, h], by simp [World.cell?, h], by simp [World.cell?, h], by simp [World.cell?, h], by simp [World.cell?, h], fun o => by simp [World.frozen?, h], box_lt h⟩
theorem relNA {V V1 w3 : World} (x : Nd) (kv : Value) (t : Nat) (bv : Below V.heap.size V V1) (b3 : Below V1.heap.size V1 w3) :
    Hid (Below V.heap.size V (w3.alloc (.cells #[.bool x.u, .int .i64 x.n, .int .i64 x.t, .int .i64 x.m, .int .i64 x.p, kv, .int .i64 x.h, .bool x.c] t))) ∧ (w3.alloc (.cells #[.bool x.u, .int .i64 x.n, .int .i64 x.t, .int .i64 x.m, .int .i64 x.p, kv, .int .i64 x.h, .bool x.c] t)).cell? ⟨w3.heap.size, 3, none⟩ = some (.int .i64 x.m) ∧ (w3.alloc (.cells #[.bool x.u, .int .i64 x.n, .int .i64 x.t, .int .i64 x.m, .int .i64 x.p, kv, .int .i64 x.h, .bool x.c] t)).cell? ⟨w3.heap.size, 4, none⟩ = some (.int .i64 x.p) ∧ V.heap.size ≤ w3.heap.size := by
  have b := bv.trans (b3.mono bv.size)
  exact ⟨b.trans ((one_belowS _ _).mono b.size), alloc_cell _ _ _ 3 rfl, alloc_cell _ _ _ 4 rfl, b.size⟩
theorem box8_set {W : World} {b t : Nat} {z0 z1 z2 z3 z4 z5 z6 z7 u0 u1 u2 u3 u4 u5 u6 u7 : Value} (h : W.heap[b]? = some (.cells #[z0, z1, z2, z3, z4, z5, z6, z7] t (0, 0))) : ((((((((W.setCell ⟨b, 0, none⟩ u0).setCell ⟨b, 1, none⟩ u1).setCell ⟨b, 2, none⟩ u2).setCell ⟨b, 3, none⟩ u3).setCell ⟨b, 4, none⟩ u4).setCell ⟨b, 5, none⟩ u5).setCell ⟨b, 6, none⟩ u6).setCell ⟨b, 7, none⟩ u7).heap[b]? = some (.cells #[u0, u1, u2, u3, u4, u5, u6, u7] t (0, 0)) := by
  have k0 : (W.setCell ⟨b, 0, none⟩ u0).heap[b]? = some (.cells #[u0, z1, z2, z3, z4, z5, z6, z7] t (0, 0)) := boxN_set (i := 0) h
  generalize W.setCell ⟨b, 0, none⟩ u0 = W0 at k0 ⊢
  have k1 : (W0.setCell ⟨b, 1, none⟩ u1).heap[b]? = some (.cells #[u0, u1, z2, z3, z4, z5, z6, z7] t (0, 0)) := boxN_set (i := 1) k0
  generalize W0.setCell ⟨b, 1, none⟩ u1 = W1 at k1 ⊢
  have k2 : (W1.setCell ⟨b, 2, none⟩ u2).heap[b]? = some (.cells #[u0, u1, u2, z3, z4, z5, z6, z7] t (0, 0)) := boxN_set (i := 2) k1
  generalize W1.setCell ⟨b, 2, none⟩ u2 = W2 at k2 ⊢
  have k3 : (W2.setCell ⟨b, 3, none⟩ u3).heap[b]? = some (.cells #[u0, u1, u2, u3, z4, z5, z6, z7] t (0, 0)) := boxN_set (i := 3) k2
  generalize W2.setCell ⟨b, 3, none⟩ u3 = W3 at k3 ⊢
  have k4 : (W3.setCell ⟨b, 4, none⟩ u4).heap[b]? = some (.cells #[u0, u1, u2, u3, u4, z5, z6, z7] t (0, 0)) := boxN_set (i := 4) k3
  generalize W3.setCell ⟨b, 4, none⟩ u4 = W4 at k4 ⊢
  have k5 : (W4.setCell ⟨b, 5, none⟩ u5).heap[b]? = some (.cells #[u0, u1, u2, u3, u4, u5, z6, z7] t (0, 0)) := boxN_set (i := 5) k4
  generalize W4.setCell ⟨b, 5, none⟩ u5 = W5 at k5 ⊢
  have k6 : (W5.setCell ⟨b, 6, none⟩ u6).heap[b]? = some (.cells #[u0, u1, u2, u3, u4, u5, u6, z7] t (0, 0)) := boxN_set (i := 6) k5
  generalize W5.setCell ⟨b, 6, none⟩ u6 = W6 at k6 ⊢
  have k7 : (W6.setCell ⟨b, 7, none⟩ u7).heap[b]? = some (.cells #[u0, u1, u2, u3, u4, u5, u6, u7] t (0, 0)) := boxN_set (i := 7) k6
  exact k7
theorem relNB {V V1 w3 : World} {t : Nat} {z0 z1 z2 z3 z4 z5 z6 z7 : Value} (x : Nd) (kv : Value) (bv : Below V.heap.size V V1) (b3 : Below V1.heap.size V1 w3) (x3 : w3.heap[V1.heap.size]? = some (.cells #[z0, z1, z2, z3, z4, z5, z6, z7] t (0, 0))) :
    Hid (Below V.heap.size V ((((((((w3.setCell ⟨V1.heap.size, 0, none⟩ (.bool x.u)).setCell ⟨V1.heap.size, 1, none⟩ (.int .i64 x.n)).setCell ⟨V1.heap.size, 2, none⟩ (.int .i64 x.t)).setCell ⟨V1.heap.size, 3, none⟩ (.int .i64 x.m)).setCell ⟨V1.heap.size, 4, none⟩ (.int .i64 x.p)).setCell ⟨V1.heap.size, 5, none⟩ kv).setCell ⟨V1.heap.size, 6, none⟩ (.int .i64 x.h)).setCell ⟨V1.heap.size, 7, none⟩ (.bool x.c))) ∧ ((((((((w3.setCell ⟨V1.heap.size, 0, none⟩ (.bool x.u)).setCell ⟨V1.heap.size, 1, none⟩ (.int .i64 x.n)).setCell ⟨V1.heap.size, 2, none⟩ (.int .i64 x.t)).setCell ⟨V1.heap.size, 3, none⟩ (.int .i64 x.m)).setCell ⟨V1.heap.size, 4, none⟩ (.int .i64 x.p)).setCell ⟨V1.heap.size, 5, none⟩ kv).setCell ⟨V1.heap.size, 6, none⟩ (.int .i64 x.h)).setCell ⟨V1.heap.size, 7, none⟩ (.bool x.c)).cell? ⟨V1.heap.size, 3, none⟩ = some (.int .i64 x.m) ∧ ((((((((w3.setCell ⟨V1.heap.size, 0, none⟩ (.bool x.u)).setCell ⟨V1.heap.size, 1, none⟩ (.int .i64 x.n)).setCell ⟨V1.heap.size, 2, none⟩ (.int .i64 x.t)).setCell ⟨V1.heap.size, 3, none⟩ (.int .i64 x.m)).setCell ⟨V1.heap.size, 4, none⟩ (.int .i64 x.p)).setCell ⟨V1.heap.size, 5, none⟩ kv).setCell ⟨V1.heap.size, 6, none⟩ (.int .i64 x.h)).setCell ⟨V1.heap.size, 7, none⟩ (.bool x.c)).cell? ⟨V1.heap.size, 4, none⟩ = some (.int .i64 x.p) ∧ V.heap.size ≤ V1.heap.size := by
  have b := bv.trans (b3.mono bv.size)
  have s := bv.size
  have k := box8_set (u0 := .bool x.u) (u1 := .int .i64 x.n) (u2 := .int .i64 x.t) (u3 := .int .i64 x.m) (u4 := .int .i64 x.p) (u5 := kv) (u6 := .int .i64 x.h) (u7 := .bool x.c) x3
  obtain ⟨_, _, _, c3, c4, _⟩ := box8_facts k
  exact ⟨(((((((b.setCell s _).setCell s _).setCell s _).setCell s _).setCell s _).setCell s _).setCell s _).setCell s _, c3, c4, s⟩

set_option maxRecDepth 100000 in
set_option maxHeartbeats 4000000 in
theorem tellMark_any (w : World) (R : Rl) (x : Ac) (wf : WF R.s) (hl : R.hs.length = 16) (ha : isH x.a) : Deed 59 #[] w R x (aGet R (hd R x.a)) := fun d h g A V I => by
  unfold aGet
  rw [ans_e]
  obtain ⟨a0, a1, a2, a3, c0, c1, c2, c3⟩ := A
  obtain rfl : a0 = some ⟨g, 0, none⟩ := I.a0
  obtain rfl : a1 = some ⟨h, 0, none⟩ := I.a1
  obtain ⟨xk, xa, xb, xc, xn⟩ := x
  obtain ⟨p, hp, hp16⟩ := natH ha
  dsimp only at hp
  subst hp
  obtain ⟨u0, u1⟩ := I.hand (k := p) (by omega)
  have II : Hid (WI w R d h g _ V) := I
  have D : Hid (∀ W, Below V.heap.size V W → Calls Tryz.prog 10 #[.agg #[.slice (some ⟨g, 0, none⟩) R.s.length c0], .agg #[.int .i64 (hd R (p : Int)).1, .int .i64 (hd R (p : Int)).2]] W fun e w' => ∃ (x : Nd) (ka : Option Addr) (kl kc : Nat), e = .returned (.tuple #[.agg #[.bool x.u, .int .i64 x.n, .int .i64 x.t, .int .i64 x.m, .int .i64 x.p, .slice ka kl kc, .int .i64 x.h, .bool x.c], .int .i64 (findE R.s (hd R (p : Int)).1 (hd R (p : Int)).2)]) ∧ Below W.heap.size W w' ∧ (findE R.s (hd R (p : Int)).1 (hd R (p : Int)).2 = 0 → x = nd R.s (hd R (p : Int)).1.toNat) ∧ (findE R.s (hd R (p : Int)).1 (hd R (p : Int)).2 ≠ 0 → x = zeroNd)) := fun W hW => find_ans R.s _ _ _ c0 W wf (I.nds.below hW)
  obtain ⟨l0, l1, l2, l3, fz, lt⟩ := box4_facts I.box
  dsimp only at l0 l1 l2 l3
  rw [hl] at l1
  have hdv : d < V.heap.size := lt
  have hhv : h < V.heap.size := World.block_lt_of_cell? _ _ u0
  have hp2 : (p : Int) < 16 := by omega
  show Calls Tryz.prog _ #[.pointer (some ⟨d, 0, none⟩), .agg #[.int .i64 xk, .int .i64 p, .int .i64 xb, .int .i64 xc, .int .i64 xn]] V _
  obtain ⟨ns, hns⟩ : ∃ n, R.s.length = n := ⟨_, rfl⟩
  have HNS : Hid (R.s.length = ns) := hns
  clear ha hl
  generalize hd R (p : Int) = hh at *
  obtain ⟨P, U⟩ := hh
  dsimp only at u0 u1 D ⊢
  obtain ⟨E, hE⟩ : ∃ E, findE R.s P U = E := ⟨_, rfl⟩
  have HE : Hid (findE R.s P U = E) := hE
  rw [hE] at D ⊢
  clear hE
  rw [hns] at D l0
  clear hns I
  go_enter Tryz.func59, Tryz.ntmps59
  go_upto_region 1 with fail
  obtain ⟨V1, hV1⟩ : ∃ V1, V.alloc (.cells #[.int .i64 xk, .int .i64 p, .int .i64 xb, .int .i64 xc, .int .i64 xn] 41) = V1 := ⟨_, rfl⟩
  have BV : Hid (Below V.heap.size V V1) := by rw [← hV1]; exact one_belowS _ _
  have y0 : V1.cell? ⟨V.heap.size, 0, none⟩ = some (.int .i64 xk) := by rw [← hV1]; exact alloc_cell _ _ _ 0 rfl
  have y1 : V1.cell? ⟨V.heap.size, 1, none⟩ = some (.int .i64 p) := by rw [← hV1]; exact alloc_cell _ _ _ 1 rfl
  have y2 : V1.cell? ⟨V.heap.size, 2, none⟩ = some (.int .i64 xb) := by rw [← hV1]; exact alloc_cell _ _ _ 2 rfl
  have y3 : V1.cell? ⟨V.heap.size, 3, none⟩ = some (.int .i64 xc) := by rw [← hV1]; exact alloc_cell _ _ _ 3 rfl
  have y4 : V1.cell? ⟨V.heap.size, 4, none⟩ = some (.int .i64 xn) := by rw [← hV1]; exact alloc_cell _ _ _ 4 rfl
  have sV : V.heap.size < V1.heap.size := World.block_lt_of_cell? _ _ y0
  rw [hV1]
  clear hV1
  replace u0 := keepC u0 BV.out
  replace u1 := keepC u1 BV.out
  replace l0 := keepC l0 BV.out
  replace l1 := keepC l1 BV.out
  replace l2 := keepC l2 BV.out
  replace l3 := keepC l3 BV.out
  have n0 : ¬ V1.heap.size = d := by omega
  have o0 : ¬ d = V1.heap.size := by omega
  have n1 : ¬ V1.heap.size = h := by omega
  have o1 : ¬ h = V1.heap.size := by omega
  have n2 : ¬ V1.heap.size = V.heap.size := by omega
  have o2 : ¬ V.heap.size = V1.heap.size := by omega
  have hvd : d < V1.heap.size := by omega
  have hvh : h < V1.heap.size := by omega
  clear fz lt
  go_cut [6, 7] (fun s6 s7 wx => ∃ (b : Nat) (m pp : Int), s6 = .pointer (some ⟨b, 0, none⟩) ∧ s7 = .int .i64 E ∧ Hid (Below V1.heap.size V1 wx) ∧ wx.cell? ⟨b, 3, none⟩ = some (.int .i64 m) ∧ wx.cell? ⟨b, 4, none⟩ = some (.int .i64 pp) ∧ V1.heap.size ≤ b ∧ Hid (E = 0 → m = (nd R.s P.toNat).m ∧ pp = (nd R.s P.toNat).p))
  case first =>
    go_region_held3 (fun w'' => w''.cell? ⟨d, 0, none⟩ = some (.slice (some ⟨g, 0, none⟩) ns c0) ∧ w''.cell? ⟨d, 1, none⟩ = some (.slice (some ⟨h, 0, none⟩) 16 c1) ∧ w''.cell? ⟨h, p * 2, none⟩ = some (.int .i64 P) ∧ w''.cell? ⟨h, p * 2 + 1, none⟩ = some (.int .i64 U) ∧ w''.cell? ⟨V.heap.size, 1, none⟩ = some (.int .i64 p)) (go_keep) (first | (go_at_call 10; refine Calls.mono (D.out V1.drew BV.out.drew) ?_; rintro e w5 ⟨nx, ka, kl, kc, rfl, hb3, hx1, hx2⟩; have B5 : Hid (Below V1.heap.size V1 w5) := (Below.refl _ _).drew.trans hb3; have HX : Hid _ := hx1; have gl0 := keepC l0 B5.out; have gl1 := keepC l1 B5.out; have gu0 := keepC u0 B5.out; have gu1 := keepC u1 B5.out; have gy1 := keepC y1 B5.out; clear hb3 hx1 hx2) | (go_at_call 10; refine Calls.mono (D.out (V1.alloc (.cells #[.bool false, .int .i64 0, .int .i64 0, .int .i64 0, .int .i64 0, .slice none 0 0, .int .i64 0, .bool false] 47)).drew (BV.out.trans ((one_belowS V1 _).mono BV.out.size)).drew) ?_; rintro e w5 ⟨nx, ka, kl, kc, rfl, hb3, hx1, hx2⟩; have B5 : Hid (Below V1.heap.size V1 w5) := (one_belowS V1 _).drew.trans (hb3.mono (by simp)); have HX : Hid _ := hx1; have gl0 := keepC l0 B5.out; have gl1 := keepC l1 B5.out; have gu0 := keepC u0 B5.out; have gu1 := keepC u1 B5.out; have gy1 := keepC y1 B5.out; have X3 : Hid (w5.heap[V1.heap.size]? = some (.cells #[.bool false, .int .i64 0, .int .i64 0, .int .i64 0, .int .i64 0, .slice none 0 0, .int .i64 0, .bool false] 47 (0, 0))) := keepB (W := (V1.alloc (.cells #[.bool false, .int .i64 0, .int .i64 0, .int .i64 0, .int .i64 0, .slice none 0 0, .int .i64 0, .bool false] 47)).drew) (heap_alloc_new V1 _) hb3; obtain ⟨z0, z1, z2, z3, z4, z5, z6, z7, zf, zl⟩ := box8_facts X3.out; clear hb3 hx1 hx2))
    · go_wp2_with fail
      go_meet
      case rel =>
        have r := relNA nx (.slice ka kl kc) 47 (Below.refl V1.heap.size V1) B5.out
        exact ⟨_, _, _, rfl, rfl, r.1, r.2.1, r.2.2.1, r.2.2.2, fun h => by rw [HX.out h]; exact ⟨rfl, rfl⟩⟩
    · go_wp2_with fail
      go_meet
      case rel =>
        have r := relNB nx (.slice ka kl kc) (Below.refl V1.heap.size V1) B5.out X3.out
        exact ⟨_, _, _, rfl, rfl, r.1, r.2.1, r.2.2.1, r.2.2.2, fun h => by rw [HX.out h]; exact ⟨rfl, rfl⟩⟩
  case rest =>
    obtain ⟨b, m, pp, rfl, rfl, HB, hm, hpp, hbl, HM⟩ := hcut
    have I2 : Hid _ := II.out.below (BV.out.trans (HB.out.mono BV.out.size))
    clear II D u0 u1 l0 l1 l2 l3 y0 y1 y2 y3 y4
    go_wp2
    refine bodyPost_ret (v := .tuple #[.int .i64 m, .int .i64 E]) (by simp [results, Tryz.results59, go_sem]) rfl ⟨m, rfl, I2.out.bel, fun hE => ?_⟩
    rw [ans_0 hE]
    exact ⟨(HM.out hE).1, _, I2.out.box, I2.out.rl⟩

set_option maxRecDepth 100000 in
set_option maxHeartbeats 4000000 in
theorem tellHow_any (F : Nat) (eg : ∀ args w, (callFunc F args).run Tryz.prog w = .ok (.enter F args) w) (cb : Nat) (w : World) (hc : w.cell? ⟨cb, 0, none⟩ = some (.func (.func F) #[] #[])) (R : Rl) (x : Ac) (hl : R.hs.length = 16) (ha : isH x.a) (E : Int) (N : Nat)
    (hF : ∀ (a : Option Addr) (c : Nat) (W : World), NdsAt W a R.s → Calls Tryz.prog F #[.agg #[.slice a R.s.length c], hdV (hd R x.a), acV x] W fun e w' => ∃ a' c' n, e = .returned (.tuple #[.slice a' n c', .int .i64 E]) ∧ Below W.heap.size W w' ∧ (E = 0 → n = N)) :
    Deed 108 #[.pointer (some ⟨cb, 0, none⟩)] w R x (ans E R N) := fun d h g A V I => by
  rw [ans_e]
  obtain ⟨a0, a1, a2, a3, c0, c1, c2, c3⟩ := A
  obtain rfl : a0 = some ⟨g, 0, none⟩ := I.a0
  obtain rfl : a1 = some ⟨h, 0, none⟩ := I.a1
  obtain ⟨xk, xa, xb, xc, xn⟩ := x
  obtain ⟨p, hp, hp16⟩ := natH ha
  dsimp only at hp
  subst hp
  obtain ⟨u0, u1⟩ := I.hand (k := p) (by omega)
  have II : Hid (WI w R d h g _ V) := I
  have D : Hid (∀ W, Below V.heap.size V W → Calls Tryz.prog F #[.agg #[.slice (some ⟨g, 0, none⟩) R.s.length c0], .agg #[.int .i64 (hd R (p : Int)).1, .int .i64 (hd R (p : Int)).2], .agg #[.int .i64 xk, .int .i64 p, .int .i64 xb, .int .i64 xc, .int .i64 xn]] W fun e w' => ∃ a' c' n, e = .returned (.tuple #[.slice a' n c', .int .i64 E]) ∧ Below W.heap.size W w' ∧ (E = 0 → n = N)) := fun W hW => hF (some ⟨g, 0, none⟩) c0 W (I.nds.below hW)
  clear hF
  have k0 := (I.bel.cell (World.block_lt_of_cell? _ _ hc)).trans hc
  obtain ⟨l0, l1, l2, l3, fz, lt⟩ := box4_facts I.box
  dsimp only at l0 l1 l2 l3
  rw [hl] at l1
  have hdv : d < V.heap.size := lt
  have hhv : h < V.heap.size := World.block_lt_of_cell? _ _ u0
  have hcv : cb < V.heap.size := World.block_lt_of_cell? _ _ k0
  have hp2 : (p : Int) < 16 := by omega
  show Calls Tryz.prog _ #[.pointer (some ⟨d, 0, none⟩), .agg #[.int .i64 xk, .int .i64 p, .int .i64 xb, .int .i64 xc, .int .i64 xn], .pointer (some ⟨cb, 0, none⟩)] V _
  obtain ⟨ns, hns⟩ : ∃ n, R.s.length = n := ⟨_, rfl⟩
  have HNS : Hid (R.s.length = ns) := hns
  clear ha hl
  generalize hd R (p : Int) = hh at *
  obtain ⟨P, U⟩ := hh
  dsimp only at u0 u1 D ⊢
  rw [hns] at D l0
  clear hns I hc
  go_enter Tryz.func108, Tryz.ntmps108
  go_upto_region 1 with fail
  obtain ⟨V1, hV1⟩ : ∃ V1, V.alloc (.cells #[.int .i64 xk, .int .i64 p, .int .i64 xb, .int .i64 xc, .int .i64 xn] 41) = V1 := ⟨_, rfl⟩
  have BV : Hid (Below V.heap.size V V1) := by rw [← hV1]; exact one_belowS _ _
  have y0 : V1.cell? ⟨V.heap.size, 0, none⟩ = some (.int .i64 xk) := by rw [← hV1]; exact alloc_cell _ _ _ 0 rfl
  have y1 : V1.cell? ⟨V.heap.size, 1, none⟩ = some (.int .i64 p) := by rw [← hV1]; exact alloc_cell _ _ _ 1 rfl
  have y2 : V1.cell? ⟨V.heap.size, 2, none⟩ = some (.int .i64 xb) := by rw [← hV1]; exact alloc_cell _ _ _ 2 rfl
  have y3 : V1.cell? ⟨V.heap.size, 3, none⟩ = some (.int .i64 xc) := by rw [← hV1]; exact alloc_cell _ _ _ 3 rfl
  have y4 : V1.cell? ⟨V.heap.size, 4, none⟩ = some (.int .i64 xn) := by rw [← hV1]; exact alloc_cell _ _ _ 4 rfl
  have sV : V.heap.size < V1.heap.size := World.block_lt_of_cell? _ _ y0
  rw [hV1]
  clear hV1
  replace u0 := keepC u0 BV.out
  replace u1 := keepC u1 BV.out
  replace l0 := keepC l0 BV.out
  replace l1 := keepC l1 BV.out
  replace l2 := keepC l2 BV.out
  replace l3 := keepC l3 BV.out
  replace k0 := keepC k0 BV.out
  have n0 : ¬ V1.heap.size = d := by omega
  have o0 : ¬ d = V1.heap.size := by omega
  have n1 : ¬ V1.heap.size = h := by omega
  have o1 : ¬ h = V1.heap.size := by omega
  have n2 : ¬ V1.heap.size = cb := by omega
  have o2 : ¬ cb = V1.heap.size := by omega
  have n3 : ¬ V1.heap.size = V.heap.size := by omega
  have o3 : ¬ V.heap.size = V1.heap.size := by omega
  have hvd : d < V1.heap.size := by omega
  have hvh : h < V1.heap.size := by omega
  have hvcb : cb < V1.heap.size := by omega
  clear fz lt
  go_region_held3 (fun w'' => w''.cell? ⟨cb, 0, none⟩ = some (.func (.func F) #[] #[]) ∧ w''.cell? ⟨d, 0, none⟩ = some (.slice (some ⟨g, 0, none⟩) ns c0) ∧ w''.cell? ⟨d, 1, none⟩ = some (.slice (some ⟨h, 0, none⟩) 16 c1) ∧ w''.cell? ⟨h, p * 2, none⟩ = some (.int .i64 P) ∧ w''.cell? ⟨h, p * 2 + 1, none⟩ = some (.int .i64 U) ∧ w''.cell? ⟨V.heap.size, 0, none⟩ = some (.int .i64 xk) ∧ w''.cell? ⟨V.heap.size, 1, none⟩ = some (.int .i64 p) ∧ w''.cell? ⟨V.heap.size, 2, none⟩ = some (.int .i64 xb) ∧ w''.cell? ⟨V.heap.size, 3, none⟩ = some (.int .i64 xc) ∧ w''.cell? ⟨V.heap.size, 4, none⟩ = some (.int .i64 xn)) (go_keep) (first | (refine Calls.mono (D.out V1.drew BV.out.drew) ?_; rintro e w3 ⟨a', c', n, rfl, hb3, hn3⟩; have B3 : Hid (Below V1.heap.size V1 w3) := (Below.refl _ _).drew.trans hb3; have N3 : Hid _ := hn3; have gk0 := keepC k0 B3.out; have gl0 := keepC l0 B3.out; have gl1 := keepC l1 B3.out; have gu0 := keepC u0 B3.out; have gu1 := keepC u1 B3.out; have gy0 := keepC y0 B3.out; have gy1 := keepC y1 B3.out; have gy2 := keepC y2 B3.out; have gy3 := keepC y3 B3.out; have gy4 := keepC y4 B3.out; clear hb3 hn3))
  have I2 : Hid _ := II.out.below (BV.out.trans (B3.out.mono BV.out.size))
  clear II D u0 u1 l0 l1 l2 l3 k0 y0 y1 y2 y3 y4 gk0 gl0 gl1 gu0 gu1 gy0 gy1 gy2 gy3 gy4
  go_wp2
  refine bodyPost_ret (v := .tuple #[.int .i64 n, .int .i64 E]) (by simp [results, Tryz.results108, go_sem]) rfl ⟨n, rfl, I2.out.bel, fun hE => ?_⟩
  rw [ans_0 hE]
  exact ⟨by rw [N3.out hE], _, I2.out.box, I2.out.rl⟩
end Go.Proofs.YtgjfmepbphfjoaaGreat
