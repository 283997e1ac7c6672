/-
  A deed that marks: mark, and the numbers.
-/
import Derived.Test.YtgjfmepbphfjoaaGreatUDwe
namespace Go.Proofs.YtgjfmepbphfjoaaGreat
open Go.RowKit Go.ChangeShapes Go.WideShapes
set_option linter.unusedVariables false

set_option maxRecDepth 100000 in
set_option maxHeartbeats 4000000 in
theorem mark_no (F : Nat) (eg : ∀ args w, (callFunc F args).run Tryz.prog w = .ok (.enter F args) w) (cb : Nat) (w : World) (hc : w.cell? ⟨cb, 0, none⟩ = some (.func (.func F) #[] #[])) (R : Rl) (x : Ac) (wf : WF R.s) (hl : R.hs.length = 16) (ha : isH x.a) (E0 n : Int) (e0 : E0 ≠ 0)
    (hF : ∀ (a : Option Addr) (c : Nat) (W : World), ClsAt W a R.i → Calls Tryz.prog F #[.agg #[.slice a R.i.length c], .int .i64 x.n] W fun e w' => e = .returned (.tuple #[.int .i64 n, .int .i64 E0]) ∧ Below W.heap.size W w') :
    Deed 107 #[.pointer (some ⟨cb, 0, none⟩)] w R x (bad E0) := fun d h g A V I => by
  rw [(bad_ans E0).2.2]
  have hz : (E0 == 0) = false := by simp [e0]
  obtain ⟨a0, a1, a2, a3, c0, c1, c2, c3⟩ := A
  obtain rfl : a0 = some ⟨g, 0, none⟩ := I.a0
  obtain rfl : a1 = some ⟨h, 0, none⟩ := I.a1
  obtain ⟨xk, xa, xb, xc, xn⟩ := x
  obtain ⟨p, hp, hp16⟩ := natH ha
  dsimp only at hp
  subst hp
  obtain ⟨u0, u1⟩ := I.hand (k := p) (by omega)
  have II : Hid (WI w R d h g _ V) := I
  have D : Hid (∀ W, Below V.heap.size V W → Calls Tryz.prog 10 #[.agg #[.slice (some ⟨g, 0, none⟩) R.s.length c0], .agg #[.int .i64 (hd R (p : Int)).1, .int .i64 (hd R (p : Int)).2]] W fun e w' => ∃ (x : Nd) (ka : Option Addr) (kl kc : Nat), e = .returned (.tuple #[.agg #[.bool x.u, .int .i64 x.n, .int .i64 x.t, .int .i64 x.m, .int .i64 x.p, .slice ka kl kc, .int .i64 x.h, .bool x.c], .int .i64 (findE R.s (hd R (p : Int)).1 (hd R (p : Int)).2)]) ∧ Below W.heap.size W w' ∧ (findE R.s (hd R (p : Int)).1 (hd R (p : Int)).2 = 0 → x = nd R.s (hd R (p : Int)).1.toNat) ∧ (findE R.s (hd R (p : Int)).1 (hd R (p : Int)).2 ≠ 0 → x = zeroNd)) := fun W hW => find_ans R.s _ _ _ c0 W wf (I.nds.below hW)
  have DF : Hid (∀ W, Below V.heap.size V W → Calls Tryz.prog F #[.agg #[.slice a2 R.i.length c2], .int .i64 xn] W fun e w' => e = .returned (.tuple #[.int .i64 n, .int .i64 E0]) ∧ Below W.heap.size W w') := fun W hW => hF a2 c2 W (I.cls.at.below hW)
  clear hF
  have k0 := (I.bel.cell (World.block_lt_of_cell? _ _ hc)).trans hc
  obtain ⟨l0, l1, l2, l3, fz, lt⟩ := box4_facts I.box
  dsimp only at l0 l1 l2 l3
  rw [hl] at l1
  have hdv : d < V.heap.size := lt
  have hhv : h < V.heap.size := World.block_lt_of_cell? _ _ u0
  have hcv : cb < V.heap.size := World.block_lt_of_cell? _ _ k0
  have hp2 : (p : Int) < 16 := by omega
  show Calls Tryz.prog _ #[.pointer (some ⟨d, 0, none⟩), .agg #[.int .i64 xk, .int .i64 p, .int .i64 xb, .int .i64 xc, .int .i64 xn], .pointer (some ⟨cb, 0, none⟩)] V _
  obtain ⟨ns, hns⟩ : ∃ n, R.s.length = n := ⟨_, rfl⟩
  have HNS : Hid (R.s.length = ns) := hns
  clear ha hl
  generalize hd R (p : Int) = hh at *
  obtain ⟨P, U⟩ := hh
  dsimp only at u0 u1 D ⊢
  obtain ⟨ni, hni⟩ : ∃ n, R.i.length = n := ⟨_, rfl⟩
  rw [hni] at DF l2
  clear hni hc
  clear hns I
  go_enter Tryz.func107, Tryz.ntmps107
  go_upto_region 1 with fail
  obtain ⟨V1, hV1⟩ : ∃ V1, V.alloc (.cells #[.int .i64 xk, .int .i64 p, .int .i64 xb, .int .i64 xc, .int .i64 xn] 41) = V1 := ⟨_, rfl⟩
  have BV : Hid (Below V.heap.size V V1) := by rw [← hV1]; exact one_belowS _ _
  have y0 : V1.cell? ⟨V.heap.size, 0, none⟩ = some (.int .i64 xk) := by rw [← hV1]; exact alloc_cell _ _ _ 0 rfl
  have y1 : V1.cell? ⟨V.heap.size, 1, none⟩ = some (.int .i64 p) := by rw [← hV1]; exact alloc_cell _ _ _ 1 rfl
  have y2 : V1.cell? ⟨V.heap.size, 2, none⟩ = some (.int .i64 xb) := by rw [← hV1]; exact alloc_cell _ _ _ 2 rfl
  have y3 : V1.cell? ⟨V.heap.size, 3, none⟩ = some (.int .i64 xc) := by rw [← hV1]; exact alloc_cell _ _ _ 3 rfl
  have y4 : V1.cell? ⟨V.heap.size, 4, none⟩ = some (.int .i64 xn) := by rw [← hV1]; exact alloc_cell _ _ _ 4 rfl
  have sV : V.heap.size < V1.heap.size := World.block_lt_of_cell? _ _ y0
  rw [hV1]
  clear hV1
  replace u0 := keepC u0 BV.out
  replace u1 := keepC u1 BV.out
  replace l0 := keepC l0 BV.out
  replace l1 := keepC l1 BV.out
  replace l2 := keepC l2 BV.out
  replace l3 := keepC l3 BV.out
  replace k0 := keepC k0 BV.out
  have n0 : ¬ V1.heap.size = d := by omega
  have o0 : ¬ d = V1.heap.size := by omega
  have n1 : ¬ V1.heap.size = h := by omega
  have o1 : ¬ h = V1.heap.size := by omega
  have n2 : ¬ V1.heap.size = cb := by omega
  have o2 : ¬ cb = V1.heap.size := by omega
  have n3 : ¬ V1.heap.size = V.heap.size := by omega
  have o3 : ¬ V.heap.size = V1.heap.size := by omega
  have hvd : d < V1.heap.size := by omega
  have hvh : h < V1.heap.size := by omega
  have hvcb : cb < V1.heap.size := by omega
  clear fz lt
  go_region_held3 (fun w'' => w''.cell? ⟨cb, 0, none⟩ = some (.func (.func F) #[] #[]) ∧ w''.cell? ⟨d, 2, none⟩ = some (.slice a2 ni c2) ∧ w''.cell? ⟨V.heap.size, 4, none⟩ = some (.int .i64 xn)) (go_keep) (first | (refine Calls.mono (DF.out V1.drew BV.out.drew) ?_; rintro e w2 ⟨rfl, hb3⟩; have B2 : Hid (Below V1.heap.size V1 w2) := (Below.refl _ _).drew.trans hb3; have gk0 := keepC k0 B2.out; have gl2 := keepC l2 B2.out; have gy4 := keepC y4 B2.out; clear hb3))
  have I2 : Hid _ := II.out.below (BV.out.trans (B2.out.mono BV.out.size))
  go_wp2
  exact bodyPost_ret (v := .tuple #[.int .i64 0, .int .i64 E0]) (by simp [results, Tryz.results107, go_sem]) rfl ⟨0, rfl, I2.out.bel, fun hE => absurd hE e0⟩

set_option maxRecDepth 100000 in
set_option maxHeartbeats 4000000 in
theorem mark_yes (F : Nat) (eg : ∀ args w, (callFunc F args).run Tryz.prog w = .ok (.enter F args) w) (cb : Nat) (w : World) (hc : w.cell? ⟨cb, 0, none⟩ = some (.func (.func F) #[] #[])) (R : Rl) (x : Ac) (wf : WF R.s) (hl : R.hs.length = 16) (ha : isH x.a) (n : Int)
    (hF : ∀ (a : Option Addr) (c : Nat) (W : World), ClsAt W a R.i → Calls Tryz.prog F #[.agg #[.slice a R.i.length c], .int .i64 x.n] W fun e w' => e = .returned (.tuple #[.int .i64 n, .int .i64 0]) ∧ Below W.heap.size W w') :
    Deed 107 #[.pointer (some ⟨cb, 0, none⟩)] w R x (aSet R (hd R x.a) n) := fun d h g A V I => by
  unfold aSet
  rw [ans_e]
  obtain ⟨a0, a1, a2, a3, c0, c1, c2, c3⟩ := A
  obtain rfl : a0 = some ⟨g, 0, none⟩ := I.a0
  obtain rfl : a1 = some ⟨h, 0, none⟩ := I.a1
  obtain ⟨xk, xa, xb, xc, xn⟩ := x
  obtain ⟨p, hp, hp16⟩ := natH ha
  dsimp only at hp
  subst hp
  obtain ⟨u0, u1⟩ := I.hand (k := p) (by omega)
  have II : Hid (WI w R d h g _ V) := I
  have D : Hid (∀ W, Below V.heap.size V W → Calls Tryz.prog 10 #[.agg #[.slice (some ⟨g, 0, none⟩) R.s.length c0], .agg #[.int .i64 (hd R (p : Int)).1, .int .i64 (hd R (p : Int)).2]] W fun e w' => ∃ (x : Nd) (ka : Option Addr) (kl kc : Nat), e = .returned (.tuple #[.agg #[.bool x.u, .int .i64 x.n, .int .i64 x.t, .int .i64 x.m, .int .i64 x.p, .slice ka kl kc, .int .i64 x.h, .bool x.c], .int .i64 (findE R.s (hd R (p : Int)).1 (hd R (p : Int)).2)]) ∧ Below W.heap.size W w' ∧ (findE R.s (hd R (p : Int)).1 (hd R (p : Int)).2 = 0 → x = nd R.s (hd R (p : Int)).1.toNat) ∧ (findE R.s (hd R (p : Int)).1 (hd R (p : Int)).2 ≠ 0 → x = zeroNd)) := fun W hW => find_ans R.s _ _ _ c0 W wf (I.nds.below hW)
  have DF : Hid (∀ W, Below V.heap.size V W → Calls Tryz.prog F #[.agg #[.slice a2 R.i.length c2], .int .i64 xn] W fun e w' => e = .returned (.tuple #[.int .i64 n, .int .i64 0]) ∧ Below W.heap.size W w') := fun W hW => hF a2 c2 W (I.cls.at.below hW)
  clear hF
  have k0 := (I.bel.cell (World.block_lt_of_cell? _ _ hc)).trans hc
  obtain ⟨l0, l1, l2, l3, fz, lt⟩ := box4_facts I.box
  dsimp only at l0 l1 l2 l3
  rw [hl] at l1
  have hdv : d < V.heap.size := lt
  have hhv : h < V.heap.size := World.block_lt_of_cell? _ _ u0
  have hcv : cb < V.heap.size := World.block_lt_of_cell? _ _ k0
  have hp2 : (p : Int) < 16 := by omega
  show Calls Tryz.prog _ #[.pointer (some ⟨d, 0, none⟩), .agg #[.int .i64 xk, .int .i64 p, .int .i64 xb, .int .i64 xc, .int .i64 xn], .pointer (some ⟨cb, 0, none⟩)] V _
  obtain ⟨ns, hns⟩ : ∃ n, R.s.length = n := ⟨_, rfl⟩
  have HNS : Hid (R.s.length = ns) := hns
  clear ha hl
  generalize hd R (p : Int) = hh at *
  obtain ⟨P, U⟩ := hh
  dsimp only at u0 u1 D ⊢
  obtain ⟨ni, hni⟩ : ∃ n, R.i.length = n := ⟨_, rfl⟩
  rw [hni] at DF l2
  clear hni hc
  obtain ⟨E, hE⟩ : ∃ E, findE R.s P U = E := ⟨_, rfl⟩
  have HE : Hid (findE R.s P U = E) := hE
  obtain ⟨M, hM⟩ : ∃ M, mrkE R.s P U n = M := ⟨_, rfl⟩
  have HM : Hid (mrkE R.s P U n = M) := hM
  rw [hE] at D
  rw [hM]
  clear hE hM
  rw [hns] at D l0
  clear hns I
  have DW : Hid (∀ W, Calls _ _ _ _ _) := fun W => within_any n (-1000000) 1000000 W
  go_enter Tryz.func107, Tryz.ntmps107
  go_upto_region 1 with fail
  obtain ⟨V1, hV1⟩ : ∃ V1, V.alloc (.cells #[.int .i64 xk, .int .i64 p, .int .i64 xb, .int .i64 xc, .int .i64 xn] 41) = V1 := ⟨_, rfl⟩
  have BV : Hid (Below V.heap.size V V1) := by rw [← hV1]; exact one_belowS _ _
  have y0 : V1.cell? ⟨V.heap.size, 0, none⟩ = some (.int .i64 xk) := by rw [← hV1]; exact alloc_cell _ _ _ 0 rfl
  have y1 : V1.cell? ⟨V.heap.size, 1, none⟩ = some (.int .i64 p) := by rw [← hV1]; exact alloc_cell _ _ _ 1 rfl
  have y2 : V1.cell? ⟨V.heap.size, 2, none⟩ = some (.int .i64 xb) := by rw [← hV1]; exact alloc_cell _ _ _ 2 rfl
  have y3 : V1.cell? ⟨V.heap.size, 3, none⟩ = some (.int .i64 xc) := by rw [← hV1]; exact alloc_cell _ _ _ 3 rfl
  have y4 : V1.cell? ⟨V.heap.size, 4, none⟩ = some (.int .i64 xn) := by rw [← hV1]; exact alloc_cell _ _ _ 4 rfl
  have sV : V.heap.size < V1.heap.size := World.block_lt_of_cell? _ _ y0
  rw [hV1]
  clear hV1
  replace u0 := keepC u0 BV.out
  replace u1 := keepC u1 BV.out
  replace l0 := keepC l0 BV.out
  replace l1 := keepC l1 BV.out
  replace l2 := keepC l2 BV.out
  replace l3 := keepC l3 BV.out
  replace k0 := keepC k0 BV.out
  have n0 : ¬ V1.heap.size = d := by omega
  have o0 : ¬ d = V1.heap.size := by omega
  have n1 : ¬ V1.heap.size = h := by omega
  have o1 : ¬ h = V1.heap.size := by omega
  have n2 : ¬ V1.heap.size = cb := by omega
  have o2 : ¬ cb = V1.heap.size := by omega
  have n3 : ¬ V1.heap.size = V.heap.size := by omega
  have o3 : ¬ V.heap.size = V1.heap.size := by omega
  have hvd : d < V1.heap.size := by omega
  have hvh : h < V1.heap.size := by omega
  have hvcb : cb < V1.heap.size := by omega
  clear fz lt
  go_region_held3 (fun w'' => w''.cell? ⟨cb, 0, none⟩ = some (.func (.func F) #[] #[]) ∧ w''.cell? ⟨d, 2, none⟩ = some (.slice a2 ni c2) ∧ w''.cell? ⟨V.heap.size, 4, none⟩ = some (.int .i64 xn)) (go_keep) (first | (refine Calls.mono (DF.out V1.drew BV.out.drew) ?_; rintro e w2 ⟨rfl, hb3⟩; have B2 : Hid (Below V1.heap.size V1 w2) := (Below.refl _ _).drew.trans hb3; have gk0 := keepC k0 B2.out; have gl2 := keepC l2 B2.out; have gy4 := keepC y4 B2.out; clear hb3))
  replace u0 := keepC u0 B2.out
  replace u1 := keepC u1 B2.out
  replace l0 := keepC l0 B2.out
  replace l1 := keepC l1 B2.out
  replace y1 := keepC y1 B2.out
  have s3 := B2.out.size
  have q0 : d < w2.heap.size := by omega
  have q1 : h < w2.heap.size := by omega
  have q2 : V.heap.size < w2.heap.size := by omega
  have e0 : ¬ w2.heap.size = d := by omega
  have e1 : ¬ w2.heap.size = h := by omega
  have e2 : ¬ w2.heap.size = V.heap.size := by omega
  have e3 : ¬ d = w2.heap.size := by omega
  have e4 : ¬ h = w2.heap.size := by omega
  have e5 : ¬ V.heap.size = w2.heap.size := by omega
  have BV2 : Hid (Below V.heap.size V w2) := BV.out.trans (B2.out.mono BV.out.size)
  clear gk0 gl2 gy4 k0 l2 l3 y0 y2 y3 y4 n0 n1 n2 n3 o0 o1 o2 o3 hvd hvh hvcb DF B2 BV
  go_wp2_with fail
  go_region_held3 (fun w'' => w''.cell? ⟨d, 1, none⟩ = some (.slice (some ⟨h, 0, none⟩) 16 c1) ∧ w''.cell? ⟨h, p * 2, none⟩ = some (.int .i64 P) ∧ w''.cell? ⟨h, p * 2 + 1, none⟩ = some (.int .i64 U) ∧ w''.cell? ⟨V.heap.size, 1, none⟩ = some (.int .i64 p)) (go_keep) (fail)
  go_upto_region 5 with fail
  obtain ⟨V4, hV4⟩ : ∃ V4, (w2.alloc (.cells #[.int .i64 P, .int .i64 U] 39)).drew = V4 := ⟨_, rfl⟩
  have B4 : Hid (Below w2.heap.size w2 V4) := by rw [← hV4]; exact (one_belowS _ _).drew
  have BV4 : Hid (Below V.heap.size V V4) := BV2.out.trans (B4.out.mono BV2.out.size)
  have X4 : Hid (V4.heap[w2.heap.size]? = some (.cells #[.int .i64 P, .int .i64 U] 39 (0, 0))) := by rw [← hV4]; exact heap_alloc_new w2 _
  rw [hV4]
  clear hV4
  obtain ⟨j0, j1, jl⟩ := box2_facts X4.out
  replace l0 := keepC l0 B4.out
  have s4 := B4.out.size
  have hvd : d < V4.heap.size := by omega
  have n0 : ¬ V4.heap.size = d := by omega
  have o0 : ¬ d = V4.heap.size := by omega
  have n1 : ¬ V4.heap.size = w2.heap.size := by omega
  have o1 : ¬ w2.heap.size = V4.heap.size := by omega
  clear u0 u1 l1 y1 e0 e1 e2 e3 e4 e5
  go_cut [10, 11] (fun s10 s11 wx => ∃ (b : Nat) (m pp : Int), s10 = .pointer (some ⟨b, 0, none⟩) ∧ s11 = .int .i64 E ∧ Hid (Below V4.heap.size V4 wx) ∧ wx.cell? ⟨b, 3, none⟩ = some (.int .i64 m) ∧ wx.cell? ⟨b, 4, none⟩ = some (.int .i64 pp) ∧ V4.heap.size ≤ b ∧ Hid (E = 0 → m = (nd R.s P.toNat).m ∧ pp = (nd R.s P.toNat).p))
  case first =>
    go_region_held3 (fun w'' => w''.cell? ⟨d, 0, none⟩ = some (.slice (some ⟨g, 0, none⟩) ns c0) ∧ w''.cell? ⟨w2.heap.size, 0, none⟩ = some (.int .i64 P) ∧ w''.cell? ⟨w2.heap.size, 1, none⟩ = some (.int .i64 U)) (go_keep) (first | (go_at_call 10; refine Calls.mono (D.out V4.drew BV4.out.drew) ?_; rintro e w5 ⟨nx, ka, kl, kc, rfl, hb3, hx1, hx2⟩; have B5 : Hid (Below V4.heap.size V4 w5) := (Below.refl _ _).drew.trans hb3; have HX : Hid _ := hx1; have gl0 := keepC l0 B5.out; have gj0 := keepC j0 B5.out; have gj1 := keepC j1 B5.out; clear hb3 hx1 hx2) | (go_at_call 10; refine Calls.mono (D.out (V4.alloc (.cells #[.bool false, .int .i64 0, .int .i64 0, .int .i64 0, .int .i64 0, .slice none 0 0, .int .i64 0, .bool false] 47)).drew (BV4.out.trans ((one_belowS V4 _).mono BV4.out.size)).drew) ?_; rintro e w5 ⟨nx, ka, kl, kc, rfl, hb3, hx1, hx2⟩; have B5 : Hid (Below V4.heap.size V4 w5) := (one_belowS V4 _).drew.trans (hb3.mono (by simp)); have HX : Hid _ := hx1; have gl0 := keepC l0 B5.out; have gj0 := keepC j0 B5.out; have gj1 := keepC j1 B5.out; have X3 : Hid (w5.heap[V4.heap.size]? = some (.cells #[.bool false, .int .i64 0, .int .i64 0, .int .i64 0, .int .i64 0, .slice none 0 0, .int .i64 0, .bool false] 47 (0, 0))) := keepB (W := (V4.alloc (.cells #[.bool false, .int .i64 0, .int .i64 0, .int .i64 0, .int .i64 0, .slice none 0 0, .int .i64 0, .bool false] 47)).drew) (heap_alloc_new V4 _) hb3; obtain ⟨z0, z1, z2, z3, z4, z5, z6, z7, zf, zl⟩ := box8_facts X3.out; clear hb3 hx1 hx2))
    · go_wp2_with fail
      go_meet
      case rel =>
        have r := relNA nx (.slice ka kl kc) 47 (Below.refl V4.heap.size V4) B5.out
        exact ⟨_, _, _, rfl, rfl, r.1, r.2.1, r.2.2.1, r.2.2.2, fun h => by rw [HX.out h]; exact ⟨rfl, rfl⟩⟩
    · go_wp2_with fail
      go_meet
      case rel =>
        have r := relNB nx (.slice ka kl kc) (Below.refl V4.heap.size V4) B5.out X3.out
        exact ⟨_, _, _, rfl, rfl, r.1, r.2.1, r.2.2.1, r.2.2.2, fun h => by rw [HX.out h]; exact ⟨rfl, rfl⟩⟩
  case rest =>
    obtain ⟨b, m, pp, rfl, rfl, HB, hm, hpp, hbl, HMM⟩ := hcut
    have I2 : Hid _ := II.out.below (BV4.out.trans (HB.out.mono BV4.out.size))
    replace j0 := keepC j0 HB.out
    obtain ⟨m0, m1, m2, m3, mf, ml⟩ := box4_facts I2.out.box
    dsimp only at m0
    rw [HNS.out] at m0
    clear j1 l0 II D hm hpp HMM m1 m2 m3
    by_cases hE : E = 0
    · subst hE
      by_cases hr : -1000000 ≤ n ∧ n ≤ 1000000
      · obtain rfl : 0 = M := by rw [← HM.out]; unfold mrkE; rw [HE.out, if_pos rfl, if_pos hr]
        rw [decide_eq_true hr] at DW
        obtain ⟨_, k, ek, hk, _⟩ := held_at HE.out
        subst ek
        have hkl := hk
        rw [HNS.out] at hk
        have hk2 : (k : Int) < (ns : Int) := by omega
        obtain ⟨r0, r1⟩ : (∃ v, wc.cell? ⟨g, k * 8 + 3, none⟩ = some v) ∧ ∀ o, wc.frozen? ⟨g, o, none⟩ = false := by
          obtain ⟨_, F, hF, _⟩ := I2.out.own
          exact ⟨⟨_, hF.cell (by omega)⟩, hF.frozen⟩
        obtain ⟨rv, r0⟩ := r0
        have HS : Hid _ := I2.out.setMark hkl n rfl
        go_wp2_with fail
        refine Calls.mono (DW.out _) ?_
        rintro e w6 ⟨rfl, hw6⟩
        have hw7 := hw6.symm
        clear hw6
        subst hw7
        go_wp2_with fail
        go_region
        go_wp2
        refine bodyPost_ret (v := .tuple #[.int .i64 0, .int .i64 0]) (by simp [results, Tryz.results107, go_sem]) rfl ⟨0, rfl, HS.out.1.drew, ?_⟩
        have e2 : mrkS R.s (k : Int) n = R.s.set k { nd R.s k with m := n } := by unfold mrkS; rw [Int.toNat_natCast]
        rw [ans_0 rfl, e2]
        exact ⟨rfl, _, HS.out.2.1, HS.out.2.2.below (Below.refl _ _).drew⟩
      · obtain rfl : 2 = M := by rw [← HM.out]; unfold mrkE; rw [HE.out, if_pos rfl, if_neg hr]
        rw [decide_eq_false hr] at DW
        go_wp2_with fail
        refine Calls.mono (DW.out _) ?_
        rintro e w6 ⟨rfl, hw6⟩
        have hw7 := hw6.symm
        clear hw6
        subst hw7
        go_wp2
        exact bodyPost_ret (v := .tuple #[.int .i64 0, .int .i64 2]) (by simp [results, Tryz.results107, go_sem]) rfl ⟨0, rfl, I2.out.bel, fun hE => absurd hE (by decide)⟩
    · obtain rfl : E = M := by rw [← HM.out]; unfold mrkE; rw [HE.out, if_neg hE]
      have hz : (E == 0) = false := by simp [hE]
      go_wp2
      exact bodyPost_ret (v := .tuple #[.int .i64 0, .int .i64 E]) (by simp [results, Tryz.results107, go_sem]) rfl ⟨0, rfl, I2.out.bel, fun h => absurd h hE⟩

set_option maxRecDepth 100000 in
theorem ownNumber_any (a : Option Addr) (l c : Nat) (n : Int) (W : World) : Calls Tryz.prog 61 #[.agg #[.slice a l c], .int .i64 n] W fun e w' => e = .returned (.tuple #[.int .i64 n, .int .i64 0]) ∧ Below W.heap.size W w' := by
  go_enter Tryz.func61, Tryz.ntmps61
  go_wp2
  exact bodyPost_ret (v := .tuple #[.int .i64 n, .int .i64 0]) (by simp [results, Tryz.results61, go_sem]) rfl ⟨rfl, one_belowS _ _⟩
set_option maxRecDepth 100000 in
set_option maxHeartbeats 1000000 in
theorem cellNumber_yes (a : Option Addr) (c : Nat) (G : List Cl) (k : Nat) (W : World) (hG : ClsAt W a G) (hk : k < G.length) (hl : G.length ≤ 24) : Calls Tryz.prog 62 #[.agg #[.slice a G.length c], .int .i64 (k : Int)] W fun e w' => e = .returned (.tuple #[.int .i64 (cl G k).n, .int .i64 0]) ∧ Below W.heap.size W w' := by
  obtain ⟨b, o, rfl, c0, _⟩ := hG k hk
  obtain ⟨l, hll⟩ : ∃ l, G.length = l := ⟨_, rfl⟩
  rw [hll] at hk hl ⊢
  clear hll hG
  obtain ⟨Q, hQ⟩ : ∃ Q : Int, (l : Int) - 1 = Q := ⟨_, rfl⟩
  have hwr : IntKind.i64.wrap ((l : Int) - 1) = Q := by rw [IntKind.wrap_i64, ← hQ]; omega
  have D : Hid (∀ W, Calls _ _ _ _ _) := fun W => within_yes (k : Int) 0 Q W (by omega) (by omega)
  have hk2 : (k : Int) < (l : Int) := by omega
  have hbl := World.block_lt_of_cell? _ _ c0
  clear hQ
  go_enter Tryz.func62, Tryz.ntmps62
  go_wp2_with fail
  refine Calls.mono (D.out _) ?_
  rintro e w1 ⟨rfl, hw⟩
  subst hw
  go_wp2
  exact bodyPost_ret (v := .tuple #[.int .i64 (cl G k).n, .int .i64 0]) (by simp [results, Tryz.results62, go_sem]) rfl ⟨rfl, one_belowS _ _⟩
set_option maxRecDepth 100000 in
set_option maxHeartbeats 1000000 in
theorem cellNumber_no (a : Option Addr) (l c : Nat) (n : Int) (W : World) (hn : ¬ (0 ≤ n ∧ n < l)) (hl : l ≤ 24) : Calls Tryz.prog 62 #[.agg #[.slice a l c], .int .i64 n] W fun e w' => e = .returned (.tuple #[.int .i64 0, .int .i64 4]) ∧ Below W.heap.size W w' := by
  obtain ⟨Q, hQ⟩ : ∃ Q : Int, (l : Int) - 1 = Q := ⟨_, rfl⟩
  have hwr : IntKind.i64.wrap ((l : Int) - 1) = Q := by rw [IntKind.wrap_i64, ← hQ]; omega
  have D : Hid (∀ W, Calls _ _ _ _ _) := fun W => within_no n 0 Q W (by omega)
  clear hQ hn
  go_enter Tryz.func62, Tryz.ntmps62
  go_wp2_with fail
  refine Calls.mono (D.out _) ?_
  rintro e w1 ⟨rfl, hw⟩
  subst hw
  go_wp2
  exact bodyPost_ret (v := .tuple #[.int .i64 0, .int .i64 4]) (by simp [results, Tryz.results62, go_sem]) rfl ⟨rfl, one_belowS _ _⟩
end Go.Proofs.YtgjfmepbphfjoaaGreat
