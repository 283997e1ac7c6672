/-
  The contracts of Make: a bad tag, no place, the first place that can.
-/
import Derived.Test.YtefjjbbommgknaaD
namespace Go.Proofs.Ytefjjbbommgknaa
open Go.RowKit

theorem make_low {w w1 : World} {v : Value} (hb : Below (w.heap.size + 1 + 1 + 1) (((w.alloc (.cells #[v] 29)).alloc (.cells #[.slice none 0 0] 29)).alloc (.cells #[.int .i64 0, .int .i64 0] 33)) w1) :
    w1.cell? ⟨w.heap.size, 0, none⟩ = some v ∧ w1.cell? ⟨w.heap.size + 1, 0, none⟩ = some (.slice none 0 0) ∧ w1.cell? ⟨w.heap.size + 1 + 1, 0, none⟩ = some (.int .i64 0) ∧ w1.cell? ⟨w.heap.size + 1 + 1, 1, none⟩ = some (.int .i64 0) ∧
    w1.frozen? ⟨w.heap.size + 1, 0, none⟩ = false ∧ w1.frozen? ⟨w.heap.size + 1 + 1, 0, none⟩ = false ∧ w1.frozen? ⟨w.heap.size + 1 + 1, 1, none⟩ = false := by
  refine ⟨(hb.cell (by simp; omega)).trans (by go_simp), (hb.cell (by simp)).trans (by go_simp), (hb.cell (by simp)).trans (by go_simp), (hb.cell (by simp)).trans (by go_simp), (hb.frozen (by simp)).trans (by go_simp), (hb.frozen (by simp)).trans (by go_simp), (hb.frozen (by simp)).trans (by go_simp)⟩

theorem Sto.set3 {w : World} {g n : Nat} {f : Nat → Nd} (h : Sto w g n f) {k : Nat} (u : Bool) (m t : Int) :
    Sto (((w.setCell ⟨g, k * 8, none⟩ (.bool u)).setCell ⟨g, k * 8 + 1, none⟩ (.int .i64 m)).setCell ⟨g, k * 8 + 2, none⟩ (.int .i64 t)) g n (fun i => if i = k then { f k with u := u, n := m, t := t } else f i) := by
  obtain ⟨F, hF, hN⟩ := h
  refine ⟨_, ((hF.set _ _).set _ _).set _ _, fun i hi => ?_⟩
  obtain ⟨e0, e1, e2, e3, e4, ⟨ja, jc, e5⟩, e6, e7⟩ := hN i hi
  by_cases e : i = k
  · have ex : (if i = k then { f k with u := u, n := m, t := t } else f i) = { f k with u := u, n := m, t := t } := if_pos e
    show NdF _ _ (if i = k then { f k with u := u, n := m, t := t } else f i)
    rw [ex]
    subst e
    refine ⟨?_, ?_, ?_, ?_, ?_, ⟨ja, jc, ?_⟩, ?_, ?_⟩
    all_goals dsimp only
    · rw [if_neg (by omega), if_neg (by omega), if_pos rfl]
    · rw [if_neg (by omega), if_pos rfl]
    · rw [if_pos rfl]
    all_goals
      rw [if_neg (by omega), if_neg (by omega), if_neg (by omega)]
      assumption
  · have ex : (if i = k then { f k with u := u, n := m, t := t } else f i) = f i := if_neg e
    show NdF _ _ (if i = k then { f k with u := u, n := m, t := t } else f i)
    rw [ex]
    refine ⟨?_, ?_, ?_, ?_, ?_, ⟨ja, jc, ?_⟩, ?_, ?_⟩
    all_goals
      dsimp only
      rw [if_neg (by omega), if_neg (by omega), if_neg (by omega)]
      assumption

set_option maxHeartbeats 800000 in
theorem make_bad (v : Value) (t : Int) (w : World) (ht : t < 0 ∨ 99 < t) :
    Calls Try.prog 10 #[.agg #[v], .int .i64 t] w fun e w' => e = .returned (.tuple #[.agg #[.slice none 0 0], .agg #[.int .i64 0, .int .i64 0], .int .i64 2]) ∧ Below w.heap.size w w' := by
  go_enter Try.func10, Try.ntmps10
  go_wp2_with (go_at_call 25; refine (within_no _ _ _ _ (by omega)).mono ?_; rintro e w' ⟨rfl, rfl⟩)
  refine bodyPost_ret (v := .tuple #[.agg #[.slice none 0 0], .agg #[.int .i64 0, .int .i64 0], .int .i64 2]) (by simp [results, Try.results10, go_sem]) rfl ⟨rfl, ?_⟩
  exact (((Below.refl _ _).alloc (Nat.le_refl _) _).alloc (by simp) _).alloc (by simp; omega) _

theorem firstFree_none (b n c : Nat) (f : Nat → Nd) (w : World) (hn : n ≤ 24) (hS : Sto w b n f) (hall : ∀ i, i < n → ((f i).u = true ∨ 1000000 ≤ (f i).n)) :
    Calls Try.prog 28 #[.slice (some ⟨b, 0, none⟩) n c, .func (.func 29) #[] #[]] w fun e w' => e = .returned (.int .i64 (-1)) ∧ Below w.heap.size w w' := by
  refine (firstFree_any b n c f w hn hS.lt (fun i hi => hS.node hi)).mono ?_
  rintro e w1 ⟨r, rfl, hb1, ⟨rfl, _⟩ | ⟨k, hk, _, h1, h2, _⟩⟩
  · exact ⟨rfl, hb1⟩
  · rcases hall k hk with h | h
    · rw [h1] at h; cases h
    · omega

theorem firstFree_at (b n c : Nat) (f : Nat → Nd) (w : World) (hn : n ≤ 24) (hS : Sto w b n f) (k : Nat) (hk : k < n) (h1 : (f k).u = false) (h2 : (f k).n < 1000000) (hall : ∀ i, i < k → ((f i).u = true ∨ 1000000 ≤ (f i).n)) :
    Calls Try.prog 28 #[.slice (some ⟨b, 0, none⟩) n c, .func (.func 29) #[] #[]] w fun e w' => e = .returned (.int .i64 (k : Int)) ∧ Below w.heap.size w w' := by
  refine (firstFree_any b n c f w hn hS.lt (fun i hi => hS.node hi)).mono ?_
  rintro e w1 ⟨r, rfl, hb1, ⟨_, ha⟩ | ⟨j, hj, rfl, g1, g2, g3⟩⟩
  · rcases ha k hk with h | h
    · rw [h1] at h; cases h
    · omega
  · have : j = k := by
      rcases Nat.lt_trichotomy j k with h | h | h
      · rcases hall j h with h' | h'
        · rw [g1] at h'; cases h'
        · omega
      · exact h
      · rcases g3 k h with h' | h'
        · rw [h1] at h'; cases h'
        · omega
    subst this
    exact ⟨rfl, hb1⟩

set_option maxHeartbeats 800000 in
theorem make_many (b n c : Nat) (f : Nat → Nd) (t : Int) (w : World) (hn : n ≤ 24) (hS : Sto w b n f) (ht0 : 0 ≤ t) (ht1 : t ≤ 99) (hall : ∀ i, i < n → ((f i).u = true ∨ 1000000 ≤ (f i).n)) :
    Calls Try.prog 10 #[.agg #[.slice (some ⟨b, 0, none⟩) n c], .int .i64 t] w fun e w' => e = .returned (.tuple #[.agg #[.slice none 0 0], .agg #[.int .i64 0, .int .i64 0], .int .i64 1]) ∧ Below w.heap.size w w' := by
  have HS : Hid (Sto w b n f) := hS
  have HA : Hid (∀ i, i < n → ((f i).u = true ∨ 1000000 ≤ (f i).n)) := hall
  clear hS hall
  go_enter Try.func10, Try.ntmps10
  go_wp2_with (first
    | (go_at_call 25; refine (within_yes _ _ _ _ (by omega) (by omega)).mono ?_; rintro e w' ⟨rfl, rfl⟩)
    | (go_at_call 28; refine (firstFree_none b n c f _ hn (((HS.out.alloc _).alloc _).alloc _) HA.out).mono ?_; rintro e w1 ⟨rfl, hb1⟩; simp only [World.size_alloc] at hb1; obtain ⟨l0, l1, l2, l3, z1, z2, z3⟩ := make_low hb1))
  refine bodyPost_ret (v := .tuple #[.agg #[.slice none 0 0], .agg #[.int .i64 0, .int .i64 0], .int .i64 1]) (by simp [results, Try.results10, go_sem, l1, l2, l3]) rfl ⟨rfl, ?_⟩
  have hbo : Below w.heap.size w w1 := ((((Below.refl _ _).alloc (Nat.le_refl _) _).alloc (by simp) _).alloc (by simp; omega) _).trans (hb1.mono (by omega))
  exact ((hbo.setCell (by simp) _).setCell (by simp; omega) _).setCell (by simp; omega) _

set_option maxHeartbeats 800000 in
theorem make_ok (b n c : Nat) (f : Nat → Nd) (t : Int) (w : World) (hn : n ≤ 24) (hS : Sto w b n f) (ht0 : 0 ≤ t) (ht1 : t ≤ 99) (k : Nat) (hk : k < n) (h1 : (f k).u = false) (h0 : 0 ≤ (f k).n) (h2 : (f k).n < 1000000) (hall : ∀ i, i < k → ((f i).u = true ∨ 1000000 ≤ (f i).n)) :
    Calls Try.prog 10 #[.agg #[.slice (some ⟨b, 0, none⟩) n c], .int .i64 t] w fun e w' => ∃ g, e = .returned (.tuple #[.agg #[.slice (some ⟨g, 0, none⟩) n n], .agg #[.int .i64 k, .int .i64 ((f k).n + 1)], .int .i64 0]) ∧ Below w.heap.size w w' ∧ w.heap.size ≤ g ∧
      Sto w' g n (fun i => if i = k then { f k with u := true, n := (f k).n + 1, t := t } else f i) := by
  have HS : Hid (Sto w b n f) := hS
  have HA : Hid (∀ i, i < k → ((f i).u = true ∨ 1000000 ≤ (f i).n)) := hall
  clear hS hall
  have H1 : Hid ((f k).u = false) := h1
  clear h1
  go_enter Try.func10, Try.ntmps10
  go_wp2_with (first
    | (go_at_call 25; refine (within_yes _ _ _ _ (by omega) (by omega)).mono ?_; rintro e w' ⟨rfl, rfl⟩)
    | (go_at_call 28; refine (firstFree_at b n c f _ hn (((HS.out.alloc _).alloc _).alloc _) k hk H1.out h2 HA.out).mono ?_; rintro e w1 ⟨rfl, hb1⟩; simp only [World.size_alloc] at hb1; obtain ⟨l0, l1, l2, l3, z1, z2, z3⟩ := make_low hb1))
  refine (copyStore_any b n c f _ hn ((((HS.out.alloc _).alloc _).alloc _).below hb1 (by have := HS.out.lt; omega))).mono ?_
  rintro e w2 ⟨g, rfl, hb2, hg, hS2⟩
  have hs1 := hb1.size
  simp only [World.size_alloc] at hs1
  have hb12 := hb1.trans (hb2.mono hs1)
  obtain ⟨m0, m1, m2, m3, y1, y2, y3⟩ := make_low hb12
  obtain ⟨d0, d1, d2, d3, d4, ⟨la, lc, d5⟩, d6, d7⟩ := hS2.node hk
  have hfz := hS2.frozen
  have hglt := hS2.lt
  have hgge : w.heap.size + 1 + 1 < g := by omega
  have HS2 : Hid (Sto w2 g n f) := hS2
  have HB : Hid (Below (w.heap.size + 1 + 1 + 1) (((w.alloc (.cells #[.slice (some ⟨b, 0, none⟩) n c] 29)).alloc (.cells #[.slice none 0 0] 29)).alloc (.cells #[.int .i64 0, .int .i64 0] 33)) w2) := hb12
  clear hS2 l0 l1 l2 l3 z1 z2 z3 hb1 hb2 hb12 hs1 hg w1
  go_wp2
  obtain ⟨W3, hW3⟩ : ∃ W3, W3 = (((w2.setCell ⟨g, k * 8, none⟩ (Value.bool true)).setCell ⟨g, k * 8 + 1, none⟩ (Value.int IntKind.i64 ((f k).n + 1))).setCell ⟨g, k * 8 + 2, none⟩ (Value.int IntKind.i64 t)).alloc (Obj.cells #[Value.slice (some ⟨g, 0, none⟩) n n] 29) := ⟨_, rfl⟩
  rw [← hW3]
  have q8 : W3.cell? ⟨w2.heap.size, 0, none⟩ = some (.slice (some ⟨g, 0, none⟩) n n) := by rw [hW3]; go_simp
  have q1 : W3.cell? ⟨g, k * 8 + 1, none⟩ = some (.int .i64 ((f k).n + 1)) := by rw [hW3]; go_simp
  have hsz : W3.heap.size = w2.heap.size + 1 := by rw [hW3]; simp
  have hb3 : Below (w.heap.size + 1 + 1 + 1) (((w.alloc (.cells #[.slice (some ⟨b, 0, none⟩) n c] 29)).alloc (.cells #[.slice none 0 0] 29)).alloc (.cells #[.int .i64 0, .int .i64 0] 33)) W3 := by
    rw [hW3]
    exact (((HB.out.setCell (by simp; omega) _).setCell (by simp; omega) _).setCell (by simp; omega) _).alloc (by simp; omega) _
  clear m0 m1 m2 m3 y1 y2 y3 d0 d1 d2 d3 d4 d5 d6 d7 hfz
  obtain ⟨m0, m1, m2, m3, y1, y2, y3⟩ := make_low hb3
  have HB3 : Hid (Below (w.heap.size + 1 + 1 + 1) (((w.alloc (.cells #[.slice (some ⟨b, 0, none⟩) n c] 29)).alloc (.cells #[.slice none 0 0] 29)).alloc (.cells #[.int .i64 0, .int .i64 0] 33)) W3) := hb3
  have HW3 : Hid (W3 = (((w2.setCell ⟨g, k * 8, none⟩ (Value.bool true)).setCell ⟨g, k * 8 + 1, none⟩ (Value.int IntKind.i64 ((f k).n + 1))).setCell ⟨g, k * 8 + 2, none⟩ (Value.int IntKind.i64 t)).alloc (Obj.cells #[Value.slice (some ⟨g, 0, none⟩) n n] 29)) := hW3
  have HSZ : Hid (W3.heap.size = w2.heap.size + 1) := hsz
  clear hb3 hW3 HB hsz
  go_region
  all_goals (try go_wp2)
  refine bodyPost_ret (v := .tuple #[.agg #[.slice (some ⟨g, 0, none⟩) n n], .agg #[.int .i64 k, .int .i64 ((f k).n + 1)], .int .i64 0]) (by simp [results, Try.results10, go_sem, m1, m2, m3]) rfl ⟨g, rfl, ?_, by omega, ?_⟩
  · have hbo : Below w.heap.size w W3 := ((((Below.refl _ _).alloc (Nat.le_refl _) _).alloc (by simp) _).alloc (by simp; omega) _).trans (HB3.out.mono (by omega))
    exact (((hbo.setCell (by simp) _).setCell (by simp; omega) _).setCell (by simp; omega) _).drew
  · have h3 := (HS2.out.set3 (k := k) true ((f k).n + 1) t).alloc (Obj.cells #[Value.slice (some ⟨g, 0, none⟩) n n] 29)
    rw [← HW3.out] at h3
    exact (((h3.setOther (by simp; omega) _).setOther (by simp; omega) _).setOther (by simp; omega) _).drew
end Go.Proofs.Ytefjjbbommgknaa
