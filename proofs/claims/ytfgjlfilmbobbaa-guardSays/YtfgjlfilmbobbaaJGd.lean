/-
  The closed fact: two frames.
-/
import Derived.Test.YtfgjlfilmbobbaaJGc
namespace Go.Proofs.Ytfgjlfilmbobbaa
open Go.RowKit
set_option linter.unusedVariables false

def G2 : List Fr := [⟨-1, 0, 7, 0, false⟩, ⟨0, 1, 1, 0, false⟩]
theorem g_send : mayE G2 1 0 3 = 7 := by decide +kernel
theorem g_close : mayE G2 0 1 4 = 0 := by decide +kernel
theorem g_touch : mayE G2 0 1 1 = 7 := by decide +kernel

theorem g2_at {w : World} {d : Nat} (h0 : w.cell? ⟨d, 0, none⟩ = some (.int .i64 (-1))) (h1 : w.cell? ⟨d, 1, none⟩ = some (.int .i64 0)) (h2 : w.cell? ⟨d, 2, none⟩ = some (.int .i64 7)) (h3 : w.cell? ⟨d, 3, none⟩ = some (.int .i64 0)) (h4 : w.cell? ⟨d, 4, none⟩ = some (.bool false))
    (k0 : w.cell? ⟨d, 5, none⟩ = some (.int .i64 0)) (k1 : w.cell? ⟨d, 6, none⟩ = some (.int .i64 1)) (k2 : w.cell? ⟨d, 7, none⟩ = some (.int .i64 1)) (k3 : w.cell? ⟨d, 8, none⟩ = some (.int .i64 0)) (k4 : w.cell? ⟨d, 9, none⟩ = some (.bool false)) : FrsAt w (some ⟨d, 0, none⟩) G2 := fun i hi => by
  match i, hi with
  | 0, _ => exact ⟨d, 0, rfl, h0, h1, h2, h3, h4⟩
  | 1, _ => exact ⟨d, 0, rfl, k0, k1, k2, k3, k4⟩

def GuardedOk : Prop := ∀ w : World, Calls Try.prog 6 #[] w fun e w' => e = .returned (.bool true) ∧ Below w.heap.size w w'

set_option maxRecDepth 100000 in
set_option maxHeartbeats 2000000 in
theorem guarded_ok : GuardedOk := by
  intro w
  have D : Hid (∀ (d : Nat) (f t x e : Int) W, (Lit.int .i64 x).wf = true → mayE G2 f t x = e → FrsAt W (some ⟨d, 0, none⟩) G2 → Calls Try.prog 7 #[.slice (some ⟨d, 0, none⟩) 2 2, .int .i64 f, .int .i64 t, .int .i64 x] W fun e' w' => e' = .returned (.int .i64 e) ∧ Below W.heap.size W w') := fun d f t x e W hx he hW => by
    rw [← he]
    exact may_any (some ⟨d, 0, none⟩) 2 G2 f t x W hx (by decide) hW
  go_enter Try.func6, Try.ntmps6
  go_wp2_with fail
  refine Calls.mono (D.out _ 1 0 3 7 _ (by decide) g_send (g2_at (by go_simp) (by go_simp) (by go_simp) (by go_simp) (by go_simp) (by go_simp) (by go_simp) (by go_simp) (by go_simp) (by go_simp))) ?_
  rintro e w1 ⟨rfl, hb⟩
  have HF : Hid (FrsAt w1 (some ⟨w.heap.size, 0, none⟩) G2) := FrsAt.below (g2_at (by go_simp) (by go_simp) (by go_simp) (by go_simp) (by go_simp) (by go_simp) (by go_simp) (by go_simp) (by go_simp) (by go_simp)) hb
  have HB1 : Hid (Below w.heap.size w w1) := (one_belowS w _).trans (hb.mono (by simp))
  clear hb
  go_wp2_with fail
  refine Calls.mono (D.out _ 0 1 4 0 _ (by decide) g_close HF.out) ?_
  rintro e w2 ⟨rfl, hb⟩
  have HF2 : Hid (FrsAt w2 (some ⟨w.heap.size, 0, none⟩) G2) := HF.out.below hb
  have HB2 : Hid (Below w.heap.size w w2) := HB1.out.trans (hb.mono HB1.out.size)
  clear hb HF
  go_wp2_with fail
  refine Calls.mono (D.out _ 0 1 1 7 _ (by decide) g_touch HF2.out) ?_
  rintro e w3 ⟨rfl, hb⟩
  have HB3 : Hid (Below w.heap.size w w3) := HB2.out.trans (hb.mono HB2.out.size)
  clear hb HF2
  go_wp2_with fail
  go_ret
  exact ⟨rfl, HB3.out⟩
end Go.Proofs.Ytfgjlfilmbobbaa
