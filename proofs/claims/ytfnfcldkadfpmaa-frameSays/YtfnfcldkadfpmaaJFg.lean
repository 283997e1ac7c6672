/-
  The closed fact: three frames.
-/
import Derived.Test.YtfnfcldkadfpmaaJFe
import Derived.Test.YtfnfcldkadfpmaaJFf
namespace Go.Proofs.Ytfnfcldkadfpmaa
open Go.RowKit
set_option linter.unusedVariables false

def F0 : List Fr := [⟨-1, 0, 7, 0, false⟩]
def F1 : List Fr := [⟨-1, 0, 7, 0, false⟩, ⟨0, 1, 5, 0, false⟩]
def F2 : List Fr := [⟨-1, 0, 7, 0, false⟩, ⟨0, 1, 5, 0, false⟩, ⟨1, 2, 5, 0, false⟩]
def F3 : List Fr := [⟨-1, 0, 7, 0, false⟩, ⟨0, 1, 5, 0, true⟩, ⟨1, 2, 5, 0, true⟩]
theorem f_att1 : attE F0 0 1 5 = 0 := by decide +kernel
theorem f_res1 : resA F0 0 1 5 = F1 := by decide +kernel
theorem f_att2 : attE F1 1 2 7 = 0 := by decide +kernel
theorem f_res2 : resA F1 1 2 7 = F2 := by decide +kernel
theorem f_held : heldE F2 0 = 0 := by decide +kernel
theorem f_len : resL F2 0 = 1 := by decide +kernel
theorem f_held1 : heldE F2 1 = 0 := by decide +kernel
theorem f_dis : resD F2 1 = F3 := by decide +kernel

theorem f0_at {w : World} {d : Nat} (h0 : w.cell? ⟨d, 0, none⟩ = some (.int .i64 (-1))) (h1 : w.cell? ⟨d, 1, none⟩ = some (.int .i64 0)) (h2 : w.cell? ⟨d, 2, none⟩ = some (.int .i64 7)) (h3 : w.cell? ⟨d, 3, none⟩ = some (.int .i64 0)) (h4 : w.cell? ⟨d, 4, none⟩ = some (.bool false)) : FrsAt w (some ⟨d, 0, none⟩) F0 := fun i hi => by
  match i, hi with
  | 0, _ => exact ⟨d, 0, rfl, h0, h1, h2, h3, h4⟩

def FramedOk : Prop := ∀ w : World, Calls Try.prog 13 #[] w fun e w' => e = .returned (.bool true) ∧ Below w.heap.size w w'

set_option maxRecDepth 100000 in
set_option maxHeartbeats 2000000 in
theorem framed_ok : FramedOk := by
  intro w
  have D1 : Hid (∀ d W, FrsAt W (some ⟨d, 0, none⟩) F0 → Calls Try.prog 6 #[.slice (some ⟨d, 0, none⟩) 1 1, .int .i64 0, .int .i64 1, .int .i64 5] W fun e w' => ∃ va vc, e = .returned (.tuple #[.slice va 2 vc, .int .i64 0]) ∧ Below W.heap.size W w' ∧ FrsAt w' va F1) := fun d W hW => by
    refine (attach_any (some ⟨d, 0, none⟩) 1 F0 0 1 5 W (by decide) hW).mono ?_
    rintro e w' ⟨va, vc, rfl, hb, hF, _⟩
    rw [f_res1] at hF
    exact ⟨va, vc, by rw [f_res1, f_att1]; rfl, hb, hF⟩
  have D2 : Hid (∀ va vc W, FrsAt W va F1 → Calls Try.prog 6 #[.slice va 2 vc, .int .i64 1, .int .i64 2, .int .i64 7] W fun e w' => ∃ va vc, e = .returned (.tuple #[.slice va 3 vc, .int .i64 0]) ∧ Below W.heap.size W w' ∧ FrsAt w' va F2) := fun va vc W hW => by
    refine (attach_any va vc F1 1 2 7 W (by decide) hW).mono ?_
    rintro e w' ⟨va, vc, rfl, hb, hF, _⟩
    rw [f_res2] at hF
    exact ⟨va, vc, by rw [f_res2, f_att2]; rfl, hb, hF⟩
  have D3 : Hid (∀ va vc W, FrsAt W va F2 → Calls Try.prog 8 #[.slice va 3 vc, .int .i64 0] W fun e w' => e = .returned (.tuple #[.int .i64 1, .int .i64 0]) ∧ Below W.heap.size W w') := fun va vc W hW => by
    refine (length_any va vc F2 0 W (by decide) hW).mono ?_
    rintro e w' ⟨rfl, hb⟩
    exact ⟨by rw [f_len, f_held], hb⟩
  have D4 : Hid (∀ va vc W, FrsAt W va F2 → Calls Try.prog 7 #[.slice va 3 vc, .int .i64 1] W fun e w' => ∃ va vc, e = .returned (.tuple #[.slice va 3 vc, .int .i64 0]) ∧ Below W.heap.size W w' ∧ FrsAt w' va F3) := fun va vc W hW => by
    refine (discard_any va vc F2 1 W (by decide) hW).mono ?_
    rintro e w' ⟨va, vc, rfl, hb, hF, _⟩
    rw [f_dis] at hF
    exact ⟨va, vc, by rw [f_dis, f_held1]; rfl, hb, hF⟩
  go_enter Try.func13, Try.ntmps13
  go_wp2_with fail
  refine Calls.mono (D1.out _ _ (f0_at (by go_simp) (by go_simp) (by go_simp) (by go_simp) (by go_simp))) ?_
  rintro e w1 ⟨va, vc, rfl, hb, hF⟩
  have HB1 : Hid (Below w.heap.size w w1) := (one_belowS w _).trans (hb.mono (by simp))
  have HF1 : Hid _ := hF
  clear hb hF D1
  go_wp2_with fail
  refine Calls.mono (D2.out va vc _ HF1.out) ?_
  rintro e w2 ⟨va2, vc2, rfl, hb, hF⟩
  have HB2 : Hid (Below w.heap.size w w2) := HB1.out.trans (hb.mono HB1.out.size)
  have HF2 : Hid (FrsAt w2 va2 F2) := hF
  clear hb hF D2 HF1
  go_wp2_with fail
  refine Calls.mono (D3.out va2 vc2 _ HF2.out) ?_
  rintro e w3 ⟨rfl, hb⟩
  have HB3 : Hid (Below w.heap.size w w3) := HB2.out.trans (hb.mono HB2.out.size)
  have HF3 : Hid (FrsAt w3 va2 F2) := HF2.out.below hb
  clear hb D3 HF2
  go_wp2_with fail
  refine Calls.mono (D4.out va2 vc2 _ HF3.out) ?_
  rintro e w4 ⟨va4, vc4, rfl, hb, hF⟩
  have HB4 : Hid (Below w.heap.size w w4) := HB3.out.trans (hb.mono HB3.out.size)
  obtain ⟨b, o, rfl, a0, a1, a2, a3, a4⟩ := (HF3.out.below hb) 2 (by decide)
  obtain ⟨b', o', rfl, d0, d1, d2, d3, d4⟩ := hF 2 (by decide)
  obtain ⟨b2, o2, e2, g0, g1, g2, g3, g4⟩ := hF 0 (by decide)
  cases e2
  have a2' : w4.cell? ⟨b, o + 2 * 5 + 2, none⟩ = some (.int .i64 5) := a2
  have d4' : w4.cell? ⟨b', o' + 2 * 5 + 4, none⟩ = some (.bool true) := d4
  have g4' : w4.cell? ⟨b', o' + 4, none⟩ = some (.bool false) := g4
  simp only [Nat.reduceMul, Nat.add_assoc, Nat.reduceAdd] at a2' d4' g4'
  clear hb hF D4 HF3 a0 a1 a2 a3 a4 d0 d1 d2 d3 d4 g0 g1 g2 g3 g4
  go_wp2_with fail
  go_ret
  exact ⟨rfl, HB4.out⟩
end Go.Proofs.Ytfnfcldkadfpmaa
