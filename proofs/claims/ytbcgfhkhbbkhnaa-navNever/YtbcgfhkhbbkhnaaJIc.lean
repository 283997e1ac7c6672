/-
  What is asked of nav's functions; the closed fact.
-/
import Derived.Test.YtbcgfhkhbbkhnaaJIa
import Derived.Test.YtbcgfhkhbbkhnaaJFe
namespace Go.Proofs.Ytbcgfhkhbbkhnaa
open Go.RowKit
set_option linter.unusedVariables false

def GoAns : Prop := ∀ (a : Option Addr) (c : Nat) (L : List Fr) (k o : Int) (w : World), L.length ≤ 9223372036854775807 → FrsAt w a L →
  Calls Try.prog 5 #[.slice a L.length c, .int .i64 k, .int .i64 o] w fun e w' => ∃ va vc, e = .returned (.tuple #[.slice va (resG L k o).length vc, .int .i64 (goE L k o)]) ∧ Below w.heap.size w w' ∧ FrsAt w' va (resG L k o)
def StillAns : Prop := ∀ (a : Option Addr) (c : Nat) (L : List Fr) (k t : Int) (w : World), L.length ≤ 9223372036854775807 → FrsAt w a L →
  Calls Try.prog 9 #[.slice a L.length c, .int .i64 k, .int .i64 t] w fun e w' => e = .returned (.bool (stillF L k t)) ∧ Below w.heap.size w w'

def N0 : List Fr := [⟨-1, 0, 7, 0, false⟩]
def N1 : List Fr := [⟨-1, 0, 7, 0, false⟩, ⟨0, 1, 7, 0, false⟩]
def N2 : List Fr := [⟨-1, 0, 7, 0, false⟩, ⟨0, 1, 7, 0, false⟩, ⟨1, 1, 7, 0, false⟩]
def N3 : List Fr := [⟨-1, 0, 7, 0, false⟩, ⟨0, 5, 7, 1, false⟩, ⟨1, 1, 7, 0, true⟩]
theorem n_att1 : attE N0 0 1 7 = 0 := by decide +kernel
theorem n_res1 : resA N0 0 1 7 = N1 := by decide +kernel
theorem n_att2 : attE N1 1 1 7 = 0 := by decide +kernel
theorem n_res2 : resA N1 1 1 7 = N2 := by decide +kernel
theorem n_go : goE N2 1 5 = 0 := by decide +kernel
theorem n_res3 : resG N2 1 5 = N3 := by decide +kernel
theorem n_still : stillF N2 1 0 = true := by decide +kernel
theorem n_still2 : stillF N3 1 0 = false := by decide +kernel
theorem n0_at {w : World} {d : Nat} (h0 : w.cell? ⟨d, 0, none⟩ = some (.int .i64 (-1))) (h1 : w.cell? ⟨d, 1, none⟩ = some (.int .i64 0)) (h2 : w.cell? ⟨d, 2, none⟩ = some (.int .i64 7)) (h3 : w.cell? ⟨d, 3, none⟩ = some (.int .i64 0)) (h4 : w.cell? ⟨d, 4, none⟩ = some (.bool false)) : FrsAt w (some ⟨d, 0, none⟩) N0 := fun i hi => by
  match i, hi with
  | 0, _ => exact ⟨d, 0, rfl, h0, h1, h2, h3, h4⟩

def GoneOk : Prop := ∀ w : World, Calls Try.prog 7 #[] w fun e w' => e = .returned (.bool true) ∧ Below w.heap.size w w'

set_option maxRecDepth 100000 in
set_option maxHeartbeats 4000000 in
theorem gone_ok (hG : GoAns) (hS : StillAns) : GoneOk := by
  intro w
  have D1 : Hid (∀ d W, FrsAt W (some ⟨d, 0, none⟩) N0 → Calls Try.prog 18 #[.slice (some ⟨d, 0, none⟩) 1 1, .int .i64 0, .int .i64 1, .int .i64 7] W fun e w' => ∃ va vc, e = .returned (.tuple #[.slice va 2 vc, .int .i64 0]) ∧ Below W.heap.size W w' ∧ FrsAt w' va N1) := fun d W hW => by
    refine (attach_any (some ⟨d, 0, none⟩) 1 N0 0 1 7 W (by decide) hW).mono ?_
    rintro e w' ⟨va, vc, rfl, hb, hF, _⟩
    rw [n_res1] at hF
    exact ⟨va, vc, by rw [n_res1, n_att1]; rfl, hb, hF⟩
  have D2 : Hid (∀ va vc W, FrsAt W va N1 → Calls Try.prog 18 #[.slice va 2 vc, .int .i64 1, .int .i64 1, .int .i64 7] W fun e w' => ∃ va vc, e = .returned (.tuple #[.slice va 3 vc, .int .i64 0]) ∧ Below W.heap.size W w' ∧ FrsAt w' va N2) := fun va vc W hW => by
    refine (attach_any va vc N1 1 1 7 W (by decide) hW).mono ?_
    rintro e w' ⟨va, vc, rfl, hb, hF, _⟩
    rw [n_res2] at hF
    exact ⟨va, vc, by rw [n_res2, n_att2]; rfl, hb, hF⟩
  have D3 : Hid (∀ va vc W, FrsAt W va N2 → Calls Try.prog 5 #[.slice va 3 vc, .int .i64 1, .int .i64 5] W fun e w' => ∃ va vc, e = .returned (.tuple #[.slice va 3 vc, .int .i64 0]) ∧ Below W.heap.size W w' ∧ FrsAt w' va N3) := fun va vc W hW => by
    refine (hG va vc N2 1 5 W (by decide) hW).mono ?_
    rintro e w' ⟨va, vc, rfl, hb, hF⟩
    rw [n_res3] at hF
    exact ⟨va, vc, by rw [n_res3, n_go]; rfl, hb, hF⟩
  have D4 : Hid (∀ va vc W, FrsAt W va N2 → Calls Try.prog 9 #[.slice va 3 vc, .int .i64 1, .int .i64 0] W fun e w' => e = .returned (.bool true) ∧ Below W.heap.size W w') := fun va vc W hW => by
    have h := hS va vc N2 1 0 W (by decide) hW
    rw [n_still] at h
    exact h
  have D5 : Hid (∀ va vc W, FrsAt W va N3 → Calls Try.prog 9 #[.slice va 3 vc, .int .i64 1, .int .i64 0] W fun e w' => e = .returned (.bool false) ∧ Below W.heap.size W w') := fun va vc W hW => by
    have h := hS va vc N3 1 0 W (by decide) hW
    rw [n_still2] at h
    exact h
  clear hG hS
  go_enter Try.func7, Try.ntmps7
  go_wp2_with fail
  refine Calls.mono (D1.out _ _ (n0_at (by go_simp) (by go_simp) (by go_simp) (by go_simp) (by go_simp))) ?_
  rintro e w1 ⟨va, vc, rfl, hb, hF⟩
  have HB1 : Hid (Below w.heap.size w w1) := (one_belowS w _).trans (hb.mono (by simp))
  have HF1 : Hid _ := hF
  clear hb hF D1
  go_wp2_with fail
  refine Calls.mono (D2.out va vc _ HF1.out) ?_
  rintro e w2 ⟨va2, vc2, rfl, hb, hF⟩
  have HB2 : Hid (Below w.heap.size w w2) := HB1.out.trans (hb.mono HB1.out.size)
  have HF2 : Hid (FrsAt w2 va2 N2) := hF
  clear hb hF D2 HF1
  go_wp2_with fail
  refine Calls.mono (D3.out va2 vc2 _ HF2.out) ?_
  rintro e w3 ⟨va3, vc3, rfl, hb, hF⟩
  have HB3 : Hid (Below w.heap.size w w3) := HB2.out.trans (hb.mono HB2.out.size)
  have HF3 : Hid (FrsAt w3 va2 N2) := HF2.out.below hb
  have HG3 : Hid (FrsAt w3 va3 N3) := hF
  obtain ⟨b, o, rfl, a0, a1, a2, a3, a4⟩ := hF 1 (by decide)
  obtain ⟨b2, o2, e2, g0, g1, g2, g3, g4⟩ := hF 2 (by decide)
  cases e2
  have a1' : w3.cell? ⟨b, o + 1 * 5 + 1, none⟩ = some (.int .i64 5) := a1
  have a3' : w3.cell? ⟨b, o + 1 * 5 + 3, none⟩ = some (.int .i64 1) := a3
  have a4' : w3.cell? ⟨b, o + 1 * 5 + 4, none⟩ = some (.bool false) := a4
  have g4' : w3.cell? ⟨b, o + 2 * 5 + 4, none⟩ = some (.bool true) := g4
  simp only [Nat.reduceMul, Nat.add_assoc, Nat.reduceAdd] at a1' a3' a4' g4'
  clear hb hF D3 HF2 a0 a1 a2 a3 a4 g0 g1 g2 g3 g4
  go_wp2_with fail
  refine Calls.mono (D4.out va2 vc2 _ HF3.out) ?_
  rintro e w4 ⟨rfl, hb⟩
  have HB4 : Hid (Below w.heap.size w w4) := HB3.out.trans (hb.mono HB3.out.size)
  have HG4 : Hid (FrsAt w4 (some ⟨b, o, none⟩) N3) := HG3.out.below hb
  clear hb HF3 HG3 a1' a3' a4' g4'
  go_wp2_with fail
  refine Calls.mono (D5.out _ vc3 _ HG4.out) ?_
  rintro e w5 ⟨rfl, hb⟩
  have HB5 : Hid (Below w.heap.size w w5) := HB4.out.trans (hb.mono HB4.out.size)
  clear hb HG4
  go_wp2_with fail
  go_ret
  exact ⟨rfl, HB5.out⟩
end Go.Proofs.Ytbcgfhkhbbkhnaa
