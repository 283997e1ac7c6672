/-
  The closed fact of the laws on trees.
-/
import Derived.Test.YtiekhgpnmcffiaaJTn
namespace Go.Proofs.Ytiekhgpnmcffiaa
open Go.RowKit

theorem big_of {S : List Nd} (h : ∀ i, i < S.length → (nd S i).ks.length ≤ 1000) : Big S := fun i hi => Nat.le_trans (h i hi) (by omega)

theorem grown_low {w w1 : World} {g : Nat} (hb : Below (w.heap.size + 1 + 1) ((w.alloc (.cells #[.slice (some ⟨g, 0, none⟩) 6 6] 29)).alloc (.cells #[.int .i64 0, .int .i64 1, .int .i64 1, .int .i64 1, .int .i64 2, .int .i64 1] 83)) w1) :
    w1.cell? ⟨w.heap.size, 0, none⟩ = some (.slice (some ⟨g, 0, none⟩) 6 6) ∧ w1.cell? ⟨w.heap.size + 1, 0, none⟩ = some (.int .i64 0) ∧ w1.cell? ⟨w.heap.size + 1, 1, none⟩ = some (.int .i64 1) ∧ w1.cell? ⟨w.heap.size + 1, 2, none⟩ = some (.int .i64 1) ∧ w1.cell? ⟨w.heap.size + 1, 3, none⟩ = some (.int .i64 1) := by
  refine ⟨?_, ?_, ?_, ?_, ?_⟩
  · exact (hb.cell (by first | (simp; done) | (simp; omega))).trans (by go_simp)
  · exact (hb.cell (by first | (simp; done) | (simp; omega))).trans (by go_simp)
  · exact (hb.cell (by first | (simp; done) | (simp; omega))).trans (by go_simp)
  · exact (hb.cell (by first | (simp; done) | (simp; omega))).trans (by go_simp)
  · exact (hb.cell (by first | (simp; done) | (simp; omega))).trans (by go_simp)

set_option maxHeartbeats 1000000 in
theorem grown_ok : GrownOk := by
  intro w
  have fa := fun W => family_any W
  have FA : Hid _ := fa
  clear fa
  have od : Hid (∀ (g : Nat) (W : World), NdsAt W (some ⟨g, 0, none⟩) S5 → Calls Try.prog 28 #[.agg #[.slice (some ⟨g, 0, none⟩) 6 6], .agg #[.int .i64 0, .int .i64 1]] W fun e w' => ∃ sa cap, e = .returned (.tuple #[.slice sa 3 cap, .int .i64 0]) ∧ Below W.heap.size W w' ∧ IntsAt w' sa [0, 2, 1]) := fun g W hW => by
    have h := order_ok (some ⟨g, 0, none⟩) 6 S5 0 6 1 W (by decide) (big_of s5_ks) hW s5_check (by decide) (((wf_iff S5).1 (by decide)).deep_all (p := 0) (by decide)) (by decide)
    rw [s5_order] at h
    exact Calls.mono h (fun e w' ⟨sa, cap, h1, h2, h3, _⟩ => ⟨sa, cap, h1, h2, h3⟩)
  have bad : Hid (∀ (g : Nat) (W : World), NdsAt W (some ⟨g, 0, none⟩) S5 → Calls Try.prog 26 #[.agg #[.slice (some ⟨g, 0, none⟩) 6 6], .agg #[.int .i64 1, .int .i64 1], .agg #[.int .i64 0, .int .i64 1], .slice none 0 0] W fun e w' => e = .returned (.tuple #[.agg #[.slice none 0 0], .int .i64 6]) ∧ Below W.heap.size W w') := fun g W hW =>
    insert_nil_bad (some ⟨g, 0, none⟩) 6 S5 1 0 1 1 W (by decide) (big_of s5_ks) hW s5_check2 (by decide) s5_fit
  have EQ : Hid (∀ (sa : Option Addr) (cap vb : Nat) (W : World), IntsAt W sa [0, 2, 1] → W.cell? ⟨vb, 0, none⟩ = some (.int .i64 0) → W.cell? ⟨vb, 1, none⟩ = some (.int .i64 2) → W.cell? ⟨vb, 2, none⟩ = some (.int .i64 1) → Calls Try.prog 9 #[.slice sa 3 cap, .slice (some ⟨vb, 0, none⟩) 3 3] W fun e w' => e = .returned (.bool true) ∧ Below W.heap.size W w') := fun sa cap vb W h1 c0 c1 c2 => by
    have h := equal_any sa (some ⟨vb, 0, none⟩) cap 3 [0, 2, 1] [0, 2, 1] W (by decide) h1 (fun i hi => by
      match i, hi with
      | 0, _ => exact ⟨vb, 0, rfl, by simpa using c0⟩
      | 1, _ => exact ⟨vb, 0, rfl, by simpa using c1⟩
      | 2, _ => exact ⟨vb, 0, rfl, by simpa using c2⟩)
    rw [decide_eq_true rfl] at h
    exact h
  go_enter Try.func32, Try.ntmps32
  go_wp2_with (first
    | (go_at_call 64; refine (FA.out _).mono ?_; rintro e w1 ⟨g, rfl, hb1, hS1⟩; have HS1 : Hid (NdsAt w1 (some ⟨g, 0, none⟩) S5) := hS1; clear hS1)
    | (go_at_call 28; refine (od.out g _ (HS1.out.below (two_below _ _ _))).mono ?_; rintro e w2 ⟨sa, cap, rfl, hb2, hI2⟩; have HI2 : Hid (IntsAt w2 sa [0, 2, 1]) := hI2; clear hI2; simp only [World.size_alloc] at hb2; obtain ⟨l0, l1, l2, l3, l4⟩ := grown_low hb2; have hB2 : Below w1.heap.size w1 w2 := (two_below _ _ _).trans (hb2.mono (by omega)))
    | (go_at_call 26; refine (bad.out g _ (HS1.out.below hB2)).mono ?_; rintro e w3 ⟨rfl, hb3⟩; have HI3 : Hid (IntsAt w3 sa [0, 2, 1]) := HI2.out.below hb3)
    | (go_at_call 9; refine (EQ.out sa cap _ _ (HI3.out.below (two_below _ _ _)) (by go_simp) (by go_simp) (by go_simp)).mono ?_; rintro e w4 ⟨rfl, hb4⟩))
  go_ret
  refine ⟨rfl, ?_⟩
  have h1 : Below w.heap.size w w2 := hb1.trans (hB2.mono hb1.size)
  have h2 := h1.trans (hb3.mono h1.size)
  exact ((h2.alloc h2.size _).alloc (by simp; have := h2.size; omega) _).trans (hb4.mono (by simp; have := h2.size; omega))
end Go.Proofs.Ytiekhgpnmcffiaa
