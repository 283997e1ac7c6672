/-
  The closed fact: who hears, in which order.
-/
import Derived.Test.YtkcclfilpchgkaaJHuEe
import Derived.Test.YtkcclfilpchgkaaJZiZkRs
namespace Go.Proofs.Ytkcclfilpchgkaa
open Go.RowKit
set_option linter.unusedVariables false

def LH : List Hr := [⟨0, false, false, false, 1⟩, ⟨0, true, true, false, 2⟩, ⟨2, false, false, false, 3⟩]
def CH7 : List Cal := [⟨2, 0, 1, 1⟩, ⟨3, 2, 2, 2⟩, ⟨1, 0, 1, 3⟩]
theorem lh_check : hcheckE LH 6 = 0 := by decide
theorem lh_big : BigH LH := fun i hi => by
  have hi' : i < 3 := hi
  match i, hi' with
  | 0, _ => decide
  | 1, _ => decide
  | 2, _ => decide
theorem lh_told : (toldF LH (spotsF [2, 3, 1, 0])).map (callH S7 2) = CH7 := by decide
theorem lh_left : (leftF LH ((toldF LH (spotsF [2, 3, 1, 0])).map Hr.id)).length = 2 := by decide

theorem lh_at {w : World} {d : Nat} (a0 : w.cell? ⟨d, 0, none⟩ = some (.int .i64 0)) (a1 : w.cell? ⟨d, 1, none⟩ = some (.bool false)) (a2 : w.cell? ⟨d, 2, none⟩ = some (.bool false)) (a3 : w.cell? ⟨d, 3, none⟩ = some (.bool false)) (a4 : w.cell? ⟨d, 4, none⟩ = some (.int .i64 1))
    (b0 : w.cell? ⟨d, 5, none⟩ = some (.int .i64 0)) (b1 : w.cell? ⟨d, 6, none⟩ = some (.bool true)) (b2 : w.cell? ⟨d, 7, none⟩ = some (.bool true)) (b3 : w.cell? ⟨d, 8, none⟩ = some (.bool false)) (b4 : w.cell? ⟨d, 9, none⟩ = some (.int .i64 2))
    (c0 : w.cell? ⟨d, 10, none⟩ = some (.int .i64 2)) (c1 : w.cell? ⟨d, 11, none⟩ = some (.bool false)) (c2 : w.cell? ⟨d, 12, none⟩ = some (.bool false)) (c3 : w.cell? ⟨d, 13, none⟩ = some (.bool false)) (c4 : w.cell? ⟨d, 14, none⟩ = some (.int .i64 3)) : HrsAt w (some ⟨d, 0, none⟩) LH := fun i hi => by
  have hi' : i < 3 := hi
  match i, hi' with
  | 0, _ => exact ⟨d, 0, rfl, a0, a1, a2, a3, a4⟩
  | 1, _ => exact ⟨d, 0, rfl, b0, b1, b2, b3, b4⟩
  | 2, _ => exact ⟨d, 0, rfl, c0, c1, c2, c3, c4⟩
theorem ch_at {w : World} {d : Nat} (a0 : w.cell? ⟨d, 0, none⟩ = some (.int .i64 2)) (a1 : w.cell? ⟨d, 1, none⟩ = some (.int .i64 0)) (a2 : w.cell? ⟨d, 2, none⟩ = some (.int .i64 1)) (a3 : w.cell? ⟨d, 3, none⟩ = some (.int .i64 1))
    (b0 : w.cell? ⟨d, 4, none⟩ = some (.int .i64 3)) (b1 : w.cell? ⟨d, 5, none⟩ = some (.int .i64 2)) (b2 : w.cell? ⟨d, 6, none⟩ = some (.int .i64 2)) (b3 : w.cell? ⟨d, 7, none⟩ = some (.int .i64 2))
    (c0 : w.cell? ⟨d, 8, none⟩ = some (.int .i64 1)) (c1 : w.cell? ⟨d, 9, none⟩ = some (.int .i64 0)) (c2 : w.cell? ⟨d, 10, none⟩ = some (.int .i64 1)) (c3 : w.cell? ⟨d, 11, none⟩ = some (.int .i64 3)) : CalsAt w (some ⟨d, 0, none⟩) CH7 := fun i hi => by
  have hi' : i < 3 := hi
  match i, hi' with
  | 0, _ => exact ⟨d, 0, rfl, a0, a1, a2, a3⟩
  | 1, _ => exact ⟨d, 0, rfl, b0, b1, b2, b3⟩
  | 2, _ => exact ⟨d, 0, rfl, c0, c1, c2, c3⟩

def HappenedOk : Prop := ∀ w : World, Calls Try.prog 8 #[] w fun e w' => e = .returned (.bool true) ∧ Below w.heap.size w w'

set_option maxRecDepth 100000 in
set_option maxHeartbeats 4000000 in
theorem happened_ok : HappenedOk := by
  intro w
  have FA : Hid (∀ W, Calls _ _ _ _ _) := fun W => family_any W
  have DA : Hid (∀ g W, NdsAt W (some ⟨g, 0, none⟩) S5 → Calls Try.prog 35 #[.agg #[.slice (some ⟨g, 0, none⟩) 6 6], .agg #[.int .i64 1, .int .i64 1], .bool true] W fun e w' => ∃ g, e = .returned (.tuple #[.agg #[.slice (some ⟨g, 0, none⟩) 6 6], .agg #[.int .i64 3, .int .i64 1], .int .i64 0]) ∧ Below W.heap.size W w' ∧ W.heap.size ≤ g ∧ OwnR w' g S6) := fun g W hW =>
    attach_ok (some ⟨g, 0, none⟩) 6 S5 1 3 1 true W s5_wf hW (by decide) s5_f1 (by decide) (by decide) (by decide) (by decide)
  have DI : Hid (∀ g W, NdsAt W (some ⟨g, 0, none⟩) S6 → Calls Try.prog 36 #[.agg #[.slice (some ⟨g, 0, none⟩) 6 6], .agg #[.int .i64 3, .int .i64 1], .agg #[.int .i64 2, .int .i64 1], .slice none 0 0] W fun e w' => ∃ g, e = .returned (.tuple #[.agg #[.slice (some ⟨g, 0, none⟩) 6 6], .int .i64 0]) ∧ Below W.heap.size W w' ∧ W.heap.size ≤ g ∧ ∀ w3 : World, (∀ b, g ≤ b → w3.heap[b]? = w'.heap[b]?) → NdsAt w3 (some ⟨g, 0, none⟩) S7) := fun g W hW =>
    insert0_ok (some ⟨g, 0, none⟩) 6 S6 3 2 1 1 none 0 0 W (by decide) s6_wf.big hW s6_check (by decide) (by decide) (by decide) (by decide) (Or.inr ⟨0, by decide, by decide, by decide⟩) (by decide) (by decide) (by decide)
  have DE : Hid (∀ g lb W, NdsAt W (some ⟨g, 0, none⟩) S7 → HrsAt W (some ⟨lb, 0, none⟩) LH → Calls Try.prog 6 #[.agg #[.slice (some ⟨g, 0, none⟩) 6 6], .slice (some ⟨lb, 0, none⟩) 3 3, .agg #[.int .i64 2, .int .i64 1]] W fun e w' => ∃ ca cc va vc, e = .returned (.tuple #[.slice ca 3 cc, .slice va 2 vc, .int .i64 0]) ∧ Below W.heap.size W w' ∧ CalsAt w' ca CH7) := fun g lb W hW hH => by
    have h := disp_ok (some ⟨g, 0, none⟩) 6 S7 (some ⟨lb, 0, none⟩) 3 LH 2 1 W s7_wf hW (by decide) s7_2 lh_big hH (fun e => by cases e) lh_check
    rw [s7_p] at h
    refine Calls.mono h ?_
    rintro e w' ⟨ca, cc, va, vc, rfl, hb, hC, _⟩
    rw [lh_told] at hC
    exact ⟨ca, cc, va, vc, by rw [lh_told, lh_left]; rfl, hb, hC⟩
  have EQ : Hid (∀ (ca : Option Addr) (cc vb : Nat) (W : World), CalsAt W ca CH7 → CalsAt W (some ⟨vb, 0, none⟩) CH7 → Calls Try.prog 11 #[.slice ca 3 cc, .slice (some ⟨vb, 0, none⟩) 3 3] W fun e w' => e = .returned (.bool true) ∧ Below W.heap.size W w') := fun ca cc vb W h1 h2 => equalCals_same ca (some ⟨vb, 0, none⟩) cc 3 CH7 W (by decide) h1 h2
  go_enter Try.func8, Try.ntmps8
  go_wp2_with fail
  refine (FA.out _).mono ?_
  rintro e w1 ⟨g, rfl, hb1, hS1⟩
  have HS1 : Hid (NdsAt w1 (some ⟨g, 0, none⟩) S5) := hS1
  have HB1 : Hid (Below w.heap.size w w1) := hb1
  clear hS1 hb1
  go_wp2_with fail
  refine Calls.mono (DA.out g _ (HS1.out.below (two_below _ _ _))) ?_
  rintro e w2 ⟨g2, rfl, hb2, hg2, hO2⟩
  simp only [World.size_alloc] at hb2 hg2
  have hs2 := hb2.size
  simp only [World.size_alloc] at hs2
  have HL2 : Hid (VL ((w2.setCell ⟨w1.heap.size, 0, none⟩ (.slice (some ⟨g2, 0, none⟩) 6 6)).alloc (.cells #[.int .i64 3, .int .i64 1] 27)) w1.heap.size (w1.heap.size + 1) w2.heap.size g2) := by
    have c0 : w2.cell? ⟨w1.heap.size, 0, none⟩ = some (.slice (some ⟨g, 0, none⟩) 6 6) := (hb2.cell (by simp; omega)).trans (by go_simp)
    have c1 : ∀ o, w2.frozen? ⟨w1.heap.size, o, none⟩ = false := fun o => (hb2.frozen (by simp; omega)).trans (by go_simp)
    have d0 : w2.cell? ⟨w1.heap.size + 1, 0, none⟩ = some (.int .i64 0) := (hb2.cell (by simp)).trans (by go_simp)
    have d1 : w2.cell? ⟨w1.heap.size + 1, 1, none⟩ = some (.int .i64 1) := (hb2.cell (by simp)).trans (by go_simp)
    have d2 : w2.cell? ⟨w1.heap.size + 1, 2, none⟩ = some (.int .i64 1) := (hb2.cell (by simp)).trans (by go_simp)
    have d3 : w2.cell? ⟨w1.heap.size + 1, 3, none⟩ = some (.int .i64 1) := (hb2.cell (by simp)).trans (by go_simp)
    have d4 : w2.cell? ⟨w1.heap.size + 1, 4, none⟩ = some (.int .i64 2) := (hb2.cell (by simp)).trans (by go_simp)
    have d5 : w2.cell? ⟨w1.heap.size + 1, 5, none⟩ = some (.int .i64 1) := (hb2.cell (by simp)).trans (by go_simp)
    have n0 : w1.heap.size < w2.heap.size := by omega
    have n1 : w1.heap.size + 1 < w2.heap.size := by omega
    refine ⟨⟨?_, fun o => ?_⟩, ⟨?_, ?_, ?_, ?_, ?_, ?_⟩, ?_, ?_⟩
    all_goals go_simp
  have c0 : w2.cell? ⟨w1.heap.size, 0, none⟩ = some (.slice (some ⟨g, 0, none⟩) 6 6) := (hb2.cell (by simp; omega)).trans (by go_simp)
  have c1 : ∀ o, w2.frozen? ⟨w1.heap.size, o, none⟩ = false := fun o => (hb2.frozen (by simp; omega)).trans (by go_simp)
  have d4 : w2.cell? ⟨w1.heap.size + 1, 4, none⟩ = some (.int .i64 2) := (hb2.cell (by simp)).trans (by go_simp)
  have d5 : w2.cell? ⟨w1.heap.size + 1, 5, none⟩ = some (.int .i64 1) := (hb2.cell (by simp)).trans (by go_simp)
  have n0 : w1.heap.size < w2.heap.size := by omega
  have n1 : w1.heap.size + 1 < w2.heap.size := by omega
  have HB2 : Hid (Below w.heap.size w w2) := HB1.out.trans (((two_below _ _ _).trans (hb2.mono (by omega))).mono HB1.out.size)
  have HN2 : Hid (NdsAt ((w2.setCell ⟨w1.heap.size, 0, none⟩ (.slice (some ⟨g2, 0, none⟩) 6 6)).alloc (.cells #[.int .i64 3, .int .i64 1] 27)) (some ⟨g2, 0, none⟩) S6) :=
    (hO2.up (w3 := w2.setCell ⟨w1.heap.size, 0, none⟩ (.slice (some ⟨g2, 0, none⟩) 6 6)) (fun b hb _ => Below.heap_setCell _ _ _ _ (by show b ≠ w1.heap.size; omega))).nds.below ((Below.refl _ _).alloc (Nat.le_refl _) _)
  clear hb2 hO2
  go_wp2_with fail
  refine Calls.mono (DI.out g2 _ HN2.out) ?_
  rintro e w3 ⟨g3, rfl, hb3, hg3, hup3⟩
  have HV3 : Hid (VL (w3.setCell ⟨w1.heap.size, 0, none⟩ (.slice (some ⟨g3, 0, none⟩) 6 6)) w1.heap.size (w1.heap.size + 1) w2.heap.size g3) := (VL.below HL2.out hb3).set (by omega) (by omega)
  have HV0 : Hid (VL w3 w1.heap.size (w1.heap.size + 1) w2.heap.size g2) := VL.below HL2.out hb3
  simp only [World.size_alloc, World.size_setCell] at hb3 hg3
  have hs3 := hb3.size
  simp only [World.size_alloc, World.size_setCell] at hs3
  have HN3 : Hid (NdsAt (w3.setCell ⟨w1.heap.size, 0, none⟩ (.slice (some ⟨g3, 0, none⟩) 6 6)) (some ⟨g3, 0, none⟩) S7) := hup3 _ (fun b hb => Below.heap_setCell _ _ _ _ (by show b ≠ w1.heap.size; omega))
  have HB3 : Hid (Below w.heap.size w (w3.setCell ⟨w1.heap.size, 0, none⟩ (.slice (some ⟨g3, 0, none⟩) 6 6))) := (Below.trans ((HB2.out.setCell (by simp; exact HB1.out.size) _).alloc (by simp; exact HB2.out.size) _) (hb3.mono (by have := HB2.out.size; omega))).setCell (by simp; exact HB1.out.size) _
  clear hb3 hup3 c0 c1 d4 d5 HL2 HN2
  obtain ⟨⟨a0, a1⟩, ⟨b0, b1, b2, b3, b4, b5⟩, r0, r1⟩ := HV0.out
  have z1 : w1.heap.size < w3.heap.size := by omega
  have z2 : w2.heap.size < w3.heap.size := by omega
  have z3 : w1.heap.size + 1 < w3.heap.size := by omega
  go_wp2_with fail
  refine Calls.mono (DE.out g3 _ _ (HN3.out.below (one_belowS _ _)) (lh_at (by go_simp) (by go_simp) (by go_simp) (by go_simp) (by go_simp) (by go_simp) (by go_simp) (by go_simp) (by go_simp) (by go_simp) (by go_simp) (by go_simp) (by go_simp) (by go_simp) (by go_simp))) ?_
  rintro e w4 ⟨ca, cc, va, vc, rfl, hb4, hC4⟩
  have HC4 : Hid (CalsAt w4 ca CH7) := hC4
  have HB4 : Hid (Below w.heap.size w w4) := (HB3.out.trans ((one_belowS _ _).mono HB3.out.size)).trans (hb4.mono (by have := HB3.out.size; simp only [World.size_alloc]; omega))
  clear hb4 hC4 a0 a1 b0 b1 b2 b3 b4 b5 r0 r1 HV3 HV0 HN3
  go_wp2_with fail
  refine Calls.mono (EQ.out ca cc _ _ (HC4.out.below (one_belowS _ _)) (ch_at (by go_simp) (by go_simp) (by go_simp) (by go_simp) (by go_simp) (by go_simp) (by go_simp) (by go_simp) (by go_simp) (by go_simp) (by go_simp) (by go_simp))) ?_
  rintro e w5 ⟨rfl, hb5⟩
  have HB5 : Hid (Below w.heap.size w w5) := (HB4.out.trans ((one_belowS _ _).mono HB4.out.size)).trans (hb5.mono (by have := HB4.out.size; simp only [World.size_alloc]; omega))
  clear hb5
  go_wp2_with fail
  go_ret
  exact ⟨rfl, HB5.out⟩
end Go.Proofs.Ytkcclfilpchgkaa
