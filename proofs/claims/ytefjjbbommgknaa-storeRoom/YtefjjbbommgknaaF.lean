/-
  The contracts of Holds and Find: a hand that holds, and one whose node is gone.
-/
import Derived.Test.YtefjjbbommgknaaE
namespace Go.Proofs.Ytefjjbbommgknaa
open Go.RowKit

set_option maxHeartbeats 800000 in
theorem holds_ok (b n c : Nat) (f : Nat → Nd) (k : Nat) (w : World) (hn : n ≤ 24) (hS : Sto w b n f) (hk : k < n) (hu : (f k).u = true) (h1 : 1 ≤ (f k).n) :
    Calls Try.prog 27 #[.agg #[.slice (some ⟨b, 0, none⟩) n c], .agg #[.int .i64 k, .int .i64 (f k).n]] w fun e w' => e = .returned (.int .i64 0) ∧ Below w.heap.size w w' := by
  obtain ⟨c0, c1, c2, c3, c4, ⟨ka, kc, c5⟩, c6, c7⟩ := hS.node hk
  have hbw := hS.lt
  clear hS
  rw [hu] at c0
  clear hu
  generalize (f k).n = u at *
  go_enter Try.func27, Try.ntmps27
  go_wp2_with (go_at_call 25; refine (within_yes _ _ _ _ (by omega) (by omega)).mono ?_; rintro e w' ⟨rfl, rfl⟩)
  go_ret
  refine ⟨rfl, ?_⟩
  exact (((Below.refl _ _).alloc (Nat.le_refl _) _).alloc (by simp) _).alloc (by simp; omega) _

set_option maxHeartbeats 800000 in
theorem holds_gone (b n c : Nat) (f : Nat → Nd) (k : Nat) (x : Int) (w : World) (hn : n ≤ 24) (hS : Sto w b n f) (hk : k < n) (h1 : 1 ≤ x) (h2 : x ≤ (f k).n) (hu : (f k).u = false ∨ x < (f k).n) :
    Calls Try.prog 27 #[.agg #[.slice (some ⟨b, 0, none⟩) n c], .agg #[.int .i64 k, .int .i64 x]] w fun e w' => e = .returned (.int .i64 5) ∧ Below w.heap.size w w' := by
  obtain ⟨c0, c1, c2, c3, c4, ⟨ka, kc, c5⟩, c6, c7⟩ := hS.node hk
  have hbw := hS.lt
  clear hS
  generalize (f k).n = u at *
  cases hq : (f k).u
  · rw [hq] at c0
    clear hq hu
    go_enter Try.func27, Try.ntmps27
    go_wp2_with (go_at_call 25; refine (within_yes _ _ _ _ (by omega) (by omega)).mono ?_; rintro e w' ⟨rfl, rfl⟩)
    go_ret
    refine ⟨rfl, ?_⟩
    exact (((Below.refl _ _).alloc (Nat.le_refl _) _).alloc (by simp) _).alloc (by simp; omega) _
  · rw [hq] at c0 hu
    have hlt : x < u := by
      rcases hu with h | h
      · cases h
      · exact h
    clear hq hu
    go_enter Try.func27, Try.ntmps27
    go_wp2_with (go_at_call 25; refine (within_yes _ _ _ _ (by omega) (by omega)).mono ?_; rintro e w' ⟨rfl, rfl⟩)
    go_ret
    refine ⟨rfl, ?_⟩
    exact (((Below.refl _ _).alloc (Nat.le_refl _) _).alloc (by simp) _).alloc (by simp; omega) _

theorem find_low {w w1 : World} {v : Value} {x y : Int} (hb : Below (w.heap.size + 1 + 1 + 1) (((w.alloc (.cells #[v] 29)).alloc (.cells #[.int .i64 x, .int .i64 y] 33)).alloc (.cells #[.bool false, .int .i64 0, .int .i64 0, .int .i64 0, .int .i64 0, .slice none 0 0, .int .i64 0, .bool false] 39)) w1) :
    (w1.cell? ⟨w.heap.size, 0, none⟩ = some v ∧ w1.cell? ⟨w.heap.size + 1, 0, none⟩ = some (.int .i64 x) ∧ w1.cell? ⟨w.heap.size + 1, 1, none⟩ = some (.int .i64 y)) ∧ NdAt w1 (w.heap.size + 1 + 1) 0 ⟨false, 0, 0, 0, 0, 0, false⟩ ∧ ∀ o, w1.frozen? ⟨w.heap.size + 1 + 1, o, none⟩ = false := by
  refine ⟨⟨(hb.cell (by simp; omega)).trans (by go_simp), (hb.cell (by simp)).trans (by go_simp), (hb.cell (by simp)).trans (by go_simp)⟩, ⟨(hb.cell (by simp)).trans (by go_simp), (hb.cell (by simp)).trans (by go_simp), (hb.cell (by simp)).trans (by go_simp), (hb.cell (by simp)).trans (by go_simp), (hb.cell (by simp)).trans (by go_simp), ⟨none, 0, (hb.cell (by simp)).trans (by go_simp)⟩, (hb.cell (by simp)).trans (by go_simp), (hb.cell (by simp)).trans (by go_simp)⟩, fun o => (hb.frozen (by simp)).trans (by go_simp)⟩

set_option maxHeartbeats 800000 in
theorem find_ok (b n c : Nat) (f : Nat → Nd) (k : Nat) (w : World) (hn : n ≤ 24) (hS : Sto w b n f) (hk : k < n) (hu : (f k).u = true) (h1 : 1 ≤ (f k).n) :
    Calls Try.prog 21 #[.agg #[.slice (some ⟨b, 0, none⟩) n c], .agg #[.int .i64 k, .int .i64 (f k).n]] w fun e w' => ∃ ka kc, e = .returned (.tuple #[.agg #[.bool (f k).u, .int .i64 (f k).n, .int .i64 (f k).t, .int .i64 (f k).m, .int .i64 (f k).p, .slice ka 0 kc, .int .i64 (f k).h, .bool (f k).c], .int .i64 0]) ∧ Below w.heap.size w w' := by
  have HS : Hid (Sto w b n f) := hS
  have hbw := hS.lt
  have HU : Hid ((f k).u = true) := hu
  clear hS hu
  go_enter Try.func21, Try.ntmps21
  go_wp2_with (go_at_call 27; refine (holds_ok b n c f k _ hn (((HS.out.alloc _).alloc _).alloc _) hk HU.out h1).mono ?_; rintro e w1 ⟨rfl, hb1⟩; simp only [World.size_alloc] at hb1; obtain ⟨⟨l0, l1, l2⟩, ⟨z0, z1, z2, z3, z4, ⟨ya, yc, z5⟩, z6, z7⟩, hz⟩ := find_low hb1; obtain ⟨c0, c1, c2, c3, c4, ⟨ka, kc, c5⟩, c6, c7⟩ := ((((HS.out.alloc _).alloc _).alloc _).below hb1 (by omega)).node hk)
  refine (copyNode_none _ _ _ _ _ _ _ _ _ _).mono ?_
  rintro e w2 ⟨rfl, hb2⟩
  have hs1 := hb1.size
  simp only [World.size_alloc] at hs1
  have hb12 := hb1.trans (hb2.mono hs1)
  clear l0 l1 l2 z0 z1 z2 z3 z4 z5 z6 z7 hz c0 c1 c2 c3 c4 c5 c6 c7
  obtain ⟨⟨l0, l1, l2⟩, ⟨z0, z1, z2, z3, z4, ⟨ya, yc, z5⟩, z6, z7⟩, hz⟩ := find_low hb12
  simp only [Nat.zero_add] at z1 z2 z3 z4 z5 z6 z7
  have HB : Hid (Below (w.heap.size + 1 + 1 + 1) (((w.alloc (.cells #[.slice (some ⟨b, 0, none⟩) n c] 29)).alloc (.cells #[.int .i64 k, .int .i64 (f k).n] 33)).alloc (.cells #[.bool false, .int .i64 0, .int .i64 0, .int .i64 0, .int .i64 0, .slice none 0 0, .int .i64 0, .bool false] 39)) w2) := hb12
  clear hb1 hb2 hb12
  go_wp2
  refine bodyPost_ret (v := .tuple #[.agg #[.bool (f k).u, .int .i64 (f k).n, .int .i64 (f k).t, .int .i64 (f k).m, .int .i64 (f k).p, .slice (some ⟨w1.heap.size + 2, 0, none⟩) 0 0, .int .i64 (f k).h, .bool (f k).c], .int .i64 0]) (by simp [results, Try.results21, go_sem, z0, z1, z2, z3, z4, z5, z6, z7]) rfl ⟨_, _, rfl, ?_⟩
  have hbo : Below w.heap.size w w2 := ((((Below.refl _ _).alloc (Nat.le_refl _) _).alloc (by simp) _).alloc (by simp; omega) _).trans (HB.out.mono (by omega))
  exact (((((((hbo.setCell (by simp; omega) _).setCell (by simp; omega) _).setCell (by simp; omega) _).setCell (by simp; omega) _).setCell (by simp; omega) _).setCell (by simp; omega) _).setCell (by simp; omega) _).setCell (by simp; omega) _

set_option maxHeartbeats 800000 in
theorem find_gone (b n c : Nat) (f : Nat → Nd) (k : Nat) (x : Int) (w : World) (hn : n ≤ 24) (hS : Sto w b n f) (hk : k < n) (h1 : 1 ≤ x) (h2 : x ≤ (f k).n) (hu : (f k).u = false ∨ x < (f k).n) :
    Calls Try.prog 21 #[.agg #[.slice (some ⟨b, 0, none⟩) n c], .agg #[.int .i64 k, .int .i64 x]] w fun e w' => e = .returned (.tuple #[.agg #[.bool false, .int .i64 0, .int .i64 0, .int .i64 0, .int .i64 0, .slice none 0 0, .int .i64 0, .bool false], .int .i64 5]) ∧ Below w.heap.size w w' := by
  have HS : Hid (Sto w b n f) := hS
  have HU : Hid ((f k).u = false ∨ x < (f k).n) := hu
  clear hS hu
  go_enter Try.func21, Try.ntmps21
  go_wp2_with (go_at_call 27; refine (holds_gone b n c f k x _ hn (((HS.out.alloc _).alloc _).alloc _) hk h1 h2 HU.out).mono ?_; rintro e w2 ⟨rfl, hb1⟩; simp only [World.size_alloc] at hb1; obtain ⟨⟨l0, l1, l2⟩, ⟨z0, z1, z2, z3, z4, ⟨ya, yc, z5⟩, z6, z7⟩, hz⟩ := find_low hb1; simp only [Nat.zero_add] at z1 z2 z3 z4 z5 z6 z7)
  refine bodyPost_ret (v := .tuple #[.agg #[.bool false, .int .i64 0, .int .i64 0, .int .i64 0, .int .i64 0, .slice none 0 0, .int .i64 0, .bool false], .int .i64 5]) (by simp [results, Try.results21, go_sem, z0, z1, z2, z3, z4, z5, z6, z7]) rfl ⟨rfl, ?_⟩
  have hbo : Below w.heap.size w w2 := ((((Below.refl _ _).alloc (Nat.le_refl _) _).alloc (by simp) _).alloc (by simp; omega) _).trans (hb1.mono (by omega))
  exact (((((((hbo.setCell (by simp; omega) _).setCell (by simp; omega) _).setCell (by simp; omega) _).setCell (by simp; omega) _).setCell (by simp; omega) _).setCell (by simp; omega) _).setCell (by simp; omega) _).setCell (by simp; omega) _
end Go.Proofs.Ytefjjbbommgknaa
