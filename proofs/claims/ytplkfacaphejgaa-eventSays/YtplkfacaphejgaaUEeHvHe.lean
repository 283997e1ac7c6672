/-
  WITHOUT THE PROGRAM: the reference's way through an event, step by step (for Dispatched).
-/
import Derived.Test.YtplkfacaphejgaaUHu
import Derived.Test.YtplkfacaphejgaaURrZiZkRzRv
import Derived.Test.YtplkfacaphejgaaULoHaSe
import Derived.Test.YtplkfacaphejgaaUHgTp
namespace Go.Proofs.Ytplkfacaphejgaa
open Go.RowKit

theorem hear_take {L : List Hr} {x : Int × Bool} {j : Nat} (hj : j < L.length) : hearF (L.take (j + 1)) x = hearF (L.take j) x ++ (if atSpot x (hr L j) then [hr L j] else []) := by
  unfold hearF
  rw [List.take_succ_eq_append_getElem hj, List.filter_append, hr_elem hj]
  cases h : atSpot x L[j] <;> simp [h]
theorem hear_take_yes {L : List Hr} {x : Int × Bool} {j : Nat} (hj : j < L.length) (h1 : (hr L j).pl = x.1) (h2 : (hr L j).dn = x.2) : hearF (L.take (j + 1)) x = hearF (L.take j) x ++ [hr L j] := by
  rw [hear_take hj, if_pos]
  unfold atSpot
  simp [h1, h2]
theorem hear_take_no {L : List Hr} {x : Int × Bool} {j : Nat} (hj : j < L.length) (h : (hr L j).pl ≠ x.1 ∨ (hr L j).dn ≠ x.2) : hearF (L.take (j + 1)) x = hearF (L.take j) x := by
  rw [hear_take hj, if_neg, List.append_nil]
  unfold atSpot
  rcases h with h | h
  · simp [h]
  · simp [h]

/-- So far nobody has stopped it. -/
theorem told_split (L : List Hr) : ∀ (X : List (Int × Bool)) (i : Nat), (∀ x ∈ X.take i, stopS L x = false) → toldF L X = (X.take i).flatMap (hearF L) ++ toldF L (X.drop i)
  | _, 0, _ => by simp
  | [], i + 1, _ => by simp [toldF]
  | x :: t, i + 1, h => by
    have h1 : stopS L x = false := h x (by simp)
    have h2 := told_split L t i (fun y hy => h y (by simp [hy]))
    rw [toldF]
    unfold stopS at h1
    rw [if_neg (by rw [h1]; simp), List.take_succ_cons, List.flatMap_cons, List.drop_succ_cons, h2, List.append_assoc]
theorem told_break {L : List Hr} {X : List (Int × Bool)} {i : Nat} (hi : i < X.length) (h : ∀ x ∈ X.take i, stopS L x = false) (hs : stopS L X[i] = true) : toldF L X = (X.take i).flatMap (hearF L) ++ hearF L X[i] := by
  rw [told_split L X i h, List.drop_eq_getElem_cons hi, toldF]
  unfold stopS at hs
  rw [if_pos hs, List.append_nil]
theorem told_end {L : List Hr} {X : List (Int × Bool)} (h : ∀ x ∈ X, stopS L x = false) : toldF L X = X.flatMap (hearF L) := by
  have := told_split L X X.length (by rw [List.take_length]; exact h)
  rw [this, List.take_length, List.drop_length]
  simp [toldF]
theorem flat_step {L : List Hr} {X : List (Int × Bool)} {i : Nat} (hi : i < X.length) : (X.take (i + 1)).flatMap (hearF L) = (X.take i).flatMap (hearF L) ++ hearF L X[i] := by
  rw [List.take_succ_eq_append_getElem hi, List.flatMap_append]
  simp
theorem stop_step {L : List Hr} {X : List (Int × Bool)} {i : Nat} (hi : i < X.length) (h : ∀ x ∈ X.take i, stopS L x = false) (hs : stopS L X[i] = false) : ∀ x ∈ X.take (i + 1), stopS L x = false := fun x hx => by
  rw [List.take_succ_eq_append_getElem hi, List.mem_append] at hx
  rcases hx with hx | hx
  · exact h x hx
  · simp at hx
    rw [hx]
    exact hs

theorem left_take {L : List Hr} {T : List Int} {j : Nat} (hj : j < L.length) : leftF (L.take (j + 1)) T = leftF (L.take j) T ++ (if (!((hr L j).on && decide ((hr L j).id ∈ T))) then [hr L j] else []) := by
  unfold leftF
  rw [List.take_succ_eq_append_getElem hj, List.filter_append, hr_elem hj]
  cases h : (!(L[j].on && decide (L[j].id ∈ T))) with
  | true => rw [List.filter_cons_of_pos (p := fun h : Hr => !(h.on && decide (h.id ∈ T))) h]; rfl
  | false => rw [List.filter_cons_of_neg (p := fun h : Hr => !(h.on && decide (h.id ∈ T))) (by rw [h]; simp)]; rfl

/-- The way down, so many steps. -/
def downF (P : List Int) (t : Nat) : List (Int × Bool) := (P.reverse.take t).map fun p => (p, true)
theorem down_step {P : List Int} {t : Nat} (ht : t < P.length) : downF P (t + 1) = downF P t ++ [(P.getD (P.length - 1 - t) 0, true)] := by
  unfold downF
  have h : t < P.reverse.length := by simpa using ht
  rw [List.take_succ_eq_append_getElem h, List.map_append, List.getElem_reverse]
  congr 1
  simp only [List.map_cons, List.map_nil]
  rw [List.getD_eq_getElem?_getD, List.getElem?_eq_getElem (by omega)]
  rfl
theorem down_all (P : List Int) : downF P P.length = P.reverse.map fun p => (p, true) := by
  unfold downF
  rw [List.take_of_length_le (by simp)]
/-- The way up, behind the way down. -/
def upW (P : List Int) (i : Nat) : List (Int × Bool) := (P.reverse.map fun p => (p, true)) ++ (P.take i).map fun p => (p, false)
theorem upW_step {P : List Int} {i : Nat} (hi : i < P.length) : upW P (i + 1) = upW P i ++ [(P.getD i 0, false)] := by
  unfold upW
  rw [List.take_succ_eq_append_getElem hi, List.map_append, ← List.append_assoc]
  congr 1
  simp only [List.map_cons, List.map_nil]
  rw [List.getD_eq_getElem?_getD, List.getElem?_eq_getElem hi]
  rfl
theorem upW_all (P : List Int) : upW P P.length = spotsF P := by
  unfold upW spotsF
  rw [List.take_length]
theorem upW_zero (P : List Int) : upW P 0 = downF P P.length := by
  rw [down_all]
  unfold upW
  simp

/-- Spots in memory. -/
def scellEe (x : Int × Bool) : List Value := [.int .i64 x.1, .bool x.2]
def scellsEe (X : List (Int × Bool)) : List Value := X.flatMap scellEe
theorem scells_snocEe (X : List (Int × Bool)) (x : Int × Bool) : scellsEe (X ++ [x]) = scellsEe X ++ scellEe x := by simp [scellsEe]
theorem scells_lenEe (X : List (Int × Bool)) : (scellsEe X).length = X.length * 2 := by
  unfold scellsEe
  induction X with
  | nil => rfl
  | cons h t ih => rw [List.flatMap_cons, List.length_append, ih]; simp [scellEe]; omega
theorem scells_atEe (X : List (Int × Bool)) : ∀ {i j : Nat} (hi : i < X.length), j < 2 → (scellsEe X)[i * 2 + j]? = (scellEe X[i])[j]? := by
  induction X with
  | nil => intro i j h; simp at h
  | cons h t ih =>
    intro i j hi hj
    unfold scellsEe
    rw [List.flatMap_cons]
    cases i with
    | zero =>
      rw [List.getElem?_append_left (by simp [scellEe]; omega), Nat.zero_mul, Nat.zero_add]
      rfl
    | succ i =>
      rw [List.getElem?_append_right (by simp [scellEe]; omega)]
      have e : (i + 1) * 2 + j - (scellEe h).length = i * 2 + j := by simp [scellEe]; omega
      rw [e]
      exact ih (by simp at hi; omega) hj
theorem scell_one (x : Int × Bool) : ∀ u ∈ scellEe x, u.oneCell' = true := fun u hu => by
  unfold scellEe at hu
  simp at hu
  rcases hu with rfl | rfl <;> rfl
end Go.Proofs.Ytplkfacaphejgaa

namespace Go.Proofs.Ytplkfacaphejgaa
open Go.RowKit
set_option linter.unusedVariables false

def LH : List Hr := [⟨0, false, false, false, 1⟩, ⟨0, true, true, false, 2⟩, ⟨2, false, false, false, 3⟩]
def CH7 : List Cal := [⟨2, 0, 1, 1⟩, ⟨3, 2, 2, 2⟩, ⟨1, 0, 1, 3⟩]
theorem lh_check : hcheckE LH 6 = 0 := by decide
theorem lh_big : BigH LH := fun i hi => by
  have hi' : i < 3 := hi
  match i, hi' with
  | 0, _ => decide
  | 1, _ => decide
  | 2, _ => decide
theorem lh_told : (toldF LH (spotsF [2, 3, 1, 0])).map (callH S7 2) = CH7 := by decide
theorem lh_left : (leftF LH ((toldF LH (spotsF [2, 3, 1, 0])).map Hr.id)).length = 2 := by decide

theorem lh_at {w : World} {d : Nat} (a0 : w.cell? ⟨d, 0, none⟩ = some (.int .i64 0)) (a1 : w.cell? ⟨d, 1, none⟩ = some (.bool false)) (a2 : w.cell? ⟨d, 2, none⟩ = some (.bool false)) (a3 : w.cell? ⟨d, 3, none⟩ = some (.bool false)) (a4 : w.cell? ⟨d, 4, none⟩ = some (.int .i64 1))
    (b0 : w.cell? ⟨d, 5, none⟩ = some (.int .i64 0)) (b1 : w.cell? ⟨d, 6, none⟩ = some (.bool true)) (b2 : w.cell? ⟨d, 7, none⟩ = some (.bool true)) (b3 : w.cell? ⟨d, 8, none⟩ = some (.bool false)) (b4 : w.cell? ⟨d, 9, none⟩ = some (.int .i64 2))
    (c0 : w.cell? ⟨d, 10, none⟩ = some (.int .i64 2)) (c1 : w.cell? ⟨d, 11, none⟩ = some (.bool false)) (c2 : w.cell? ⟨d, 12, none⟩ = some (.bool false)) (c3 : w.cell? ⟨d, 13, none⟩ = some (.bool false)) (c4 : w.cell? ⟨d, 14, none⟩ = some (.int .i64 3)) : HrsAt w (some ⟨d, 0, none⟩) LH := fun i hi => by
  have hi' : i < 3 := hi
  match i, hi' with
  | 0, _ => exact ⟨d, 0, rfl, a0, a1, a2, a3, a4⟩
  | 1, _ => exact ⟨d, 0, rfl, b0, b1, b2, b3, b4⟩
  | 2, _ => exact ⟨d, 0, rfl, c0, c1, c2, c3, c4⟩
theorem ch_at {w : World} {d : Nat} (a0 : w.cell? ⟨d, 0, none⟩ = some (.int .i64 2)) (a1 : w.cell? ⟨d, 1, none⟩ = some (.int .i64 0)) (a2 : w.cell? ⟨d, 2, none⟩ = some (.int .i64 1)) (a3 : w.cell? ⟨d, 3, none⟩ = some (.int .i64 1))
    (b0 : w.cell? ⟨d, 4, none⟩ = some (.int .i64 3)) (b1 : w.cell? ⟨d, 5, none⟩ = some (.int .i64 2)) (b2 : w.cell? ⟨d, 6, none⟩ = some (.int .i64 2)) (b3 : w.cell? ⟨d, 7, none⟩ = some (.int .i64 2))
    (c0 : w.cell? ⟨d, 8, none⟩ = some (.int .i64 1)) (c1 : w.cell? ⟨d, 9, none⟩ = some (.int .i64 0)) (c2 : w.cell? ⟨d, 10, none⟩ = some (.int .i64 1)) (c3 : w.cell? ⟨d, 11, none⟩ = some (.int .i64 3)) : CalsAt w (some ⟨d, 0, none⟩) CH7 := fun i hi => by
  have hi' : i < 3 := hi
  match i, hi' with
  | 0, _ => exact ⟨d, 0, rfl, a0, a1, a2, a3⟩
  | 1, _ => exact ⟨d, 0, rfl, b0, b1, b2, b3⟩
  | 2, _ => exact ⟨d, 0, rfl, c0, c1, c2, c3⟩

def HappenedOk : Prop := ∀ w : World, Calls Try.prog 6 #[] w fun e w' => e = .returned (.bool true) ∧ Below w.heap.size w w'

set_option maxRecDepth 100000 in
set_option maxHeartbeats 4000000 in
theorem happened_ok : HappenedOk := by
  intro w
  have FA : Hid (∀ W, Calls _ _ _ _ _) := fun W => family_any W
  have DA : Hid (∀ g W, NdsAt W (some ⟨g, 0, none⟩) S5 → Calls Try.prog 23 #[.agg #[.slice (some ⟨g, 0, none⟩) 6 6], .agg #[.int .i64 1, .int .i64 1], .bool true] W fun e w' => ∃ g, e = .returned (.tuple #[.agg #[.slice (some ⟨g, 0, none⟩) 6 6], .agg #[.int .i64 3, .int .i64 1], .int .i64 0]) ∧ Below W.heap.size W w' ∧ W.heap.size ≤ g ∧ OwnR w' g S6) := fun g W hW =>
    attach_ok (some ⟨g, 0, none⟩) 6 S5 1 3 1 true W s5_wfZi hW (by decide) s5_f1 (by decide) (by decide) (by decide) (by decide)
  have DI : Hid (∀ g W, NdsAt W (some ⟨g, 0, none⟩) S6 → Calls Try.prog 24 #[.agg #[.slice (some ⟨g, 0, none⟩) 6 6], .agg #[.int .i64 3, .int .i64 1], .agg #[.int .i64 2, .int .i64 1], .slice none 0 0] W fun e w' => ∃ g, e = .returned (.tuple #[.agg #[.slice (some ⟨g, 0, none⟩) 6 6], .int .i64 0]) ∧ Below W.heap.size W w' ∧ W.heap.size ≤ g ∧ ∀ w3 : World, (∀ b, g ≤ b → w3.heap[b]? = w'.heap[b]?) → NdsAt w3 (some ⟨g, 0, none⟩) S7) := fun g W hW =>
    insert0_ok (some ⟨g, 0, none⟩) 6 S6 3 2 1 1 none 0 0 W (by decide) s6_wf.big hW s6_check (by decide) (by decide) (by decide) (by decide) (Or.inr ⟨0, by decide, by decide, by decide⟩) (by decide) (by decide) (by decide)
  have DE : Hid (∀ g lb W, NdsAt W (some ⟨g, 0, none⟩) S7 → HrsAt W (some ⟨lb, 0, none⟩) LH → Calls Try.prog 4 #[.agg #[.slice (some ⟨g, 0, none⟩) 6 6], .slice (some ⟨lb, 0, none⟩) 3 3, .agg #[.int .i64 2, .int .i64 1]] W fun e w' => ∃ ca cc va vc, e = .returned (.tuple #[.slice ca 3 cc, .slice va 2 vc, .int .i64 0]) ∧ Below W.heap.size W w' ∧ CalsAt w' ca CH7) := fun g lb W hW hH => by
    have h := disp_ok (some ⟨g, 0, none⟩) 6 S7 (some ⟨lb, 0, none⟩) 3 LH 2 1 W s7_wf hW (by decide) s7_2 lh_big hH (fun e => by cases e) lh_check
    rw [s7_p] at h
    refine Calls.mono h ?_
    rintro e w' ⟨ca, cc, va, vc, rfl, hb, hC, _⟩
    rw [lh_told] at hC
    exact ⟨ca, cc, va, vc, by rw [lh_told, lh_left]; rfl, hb, hC⟩
  have EQ : Hid (∀ (ca : Option Addr) (cc vb : Nat) (W : World), CalsAt W ca CH7 → CalsAt W (some ⟨vb, 0, none⟩) CH7 → Calls Try.prog 9 #[.slice ca 3 cc, .slice (some ⟨vb, 0, none⟩) 3 3] W fun e w' => e = .returned (.bool true) ∧ Below W.heap.size W w') := fun ca cc vb W h1 h2 => equalCals_same ca (some ⟨vb, 0, none⟩) cc 3 CH7 W (by decide) h1 h2
  go_enter Try.func6, Try.ntmps6
  go_wp2_with fail
  refine (FA.out _).mono ?_
  rintro e w1 ⟨g, rfl, hb1, hS1⟩
  have HS1 : Hid (NdsAt w1 (some ⟨g, 0, none⟩) S5) := hS1
  have HB1 : Hid (Below w.heap.size w w1) := hb1
  clear hS1 hb1
  go_wp2_with fail
  refine Calls.mono (DA.out g _ (HS1.out.below (two_below _ _ _))) ?_
  rintro e w2 ⟨g2, rfl, hb2, hg2, hO2⟩
  simp only [World.size_alloc] at hb2 hg2
  have hs2 := hb2.size
  simp only [World.size_alloc] at hs2
  have HL2 : Hid (VL ((w2.setCell ⟨w1.heap.size, 0, none⟩ (.slice (some ⟨g2, 0, none⟩) 6 6)).alloc (.cells #[.int .i64 3, .int .i64 1] 27)) w1.heap.size (w1.heap.size + 1) w2.heap.size g2) := by
    have c0 : w2.cell? ⟨w1.heap.size, 0, none⟩ = some (.slice (some ⟨g, 0, none⟩) 6 6) := (hb2.cell (by simp; omega)).trans (by go_simp)
    have c1 : ∀ o, w2.frozen? ⟨w1.heap.size, o, none⟩ = false := fun o => (hb2.frozen (by simp; omega)).trans (by go_simp)
    have d0 : w2.cell? ⟨w1.heap.size + 1, 0, none⟩ = some (.int .i64 0) := (hb2.cell (by simp)).trans (by go_simp)
    have d1 : w2.cell? ⟨w1.heap.size + 1, 1, none⟩ = some (.int .i64 1) := (hb2.cell (by simp)).trans (by go_simp)
    have d2 : w2.cell? ⟨w1.heap.size + 1, 2, none⟩ = some (.int .i64 1) := (hb2.cell (by simp)).trans (by go_simp)
    have d3 : w2.cell? ⟨w1.heap.size + 1, 3, none⟩ = some (.int .i64 1) := (hb2.cell (by simp)).trans (by go_simp)
    have d4 : w2.cell? ⟨w1.heap.size + 1, 4, none⟩ = some (.int .i64 2) := (hb2.cell (by simp)).trans (by go_simp)
    have d5 : w2.cell? ⟨w1.heap.size + 1, 5, none⟩ = some (.int .i64 1) := (hb2.cell (by simp)).trans (by go_simp)
    have n0 : w1.heap.size < w2.heap.size := by omega
    have n1 : w1.heap.size + 1 < w2.heap.size := by omega
    refine ⟨⟨?_, fun o => ?_⟩, ⟨?_, ?_, ?_, ?_, ?_, ?_⟩, ?_, ?_⟩
    all_goals go_simp
  have c0 : w2.cell? ⟨w1.heap.size, 0, none⟩ = some (.slice (some ⟨g, 0, none⟩) 6 6) := (hb2.cell (by simp; omega)).trans (by go_simp)
  have c1 : ∀ o, w2.frozen? ⟨w1.heap.size, o, none⟩ = false := fun o => (hb2.frozen (by simp; omega)).trans (by go_simp)
  have d4 : w2.cell? ⟨w1.heap.size + 1, 4, none⟩ = some (.int .i64 2) := (hb2.cell (by simp)).trans (by go_simp)
  have d5 : w2.cell? ⟨w1.heap.size + 1, 5, none⟩ = some (.int .i64 1) := (hb2.cell (by simp)).trans (by go_simp)
  have n0 : w1.heap.size < w2.heap.size := by omega
  have n1 : w1.heap.size + 1 < w2.heap.size := by omega
  have HB2 : Hid (Below w.heap.size w w2) := HB1.out.trans (((two_below _ _ _).trans (hb2.mono (by omega))).mono HB1.out.size)
  have HN2 : Hid (NdsAt ((w2.setCell ⟨w1.heap.size, 0, none⟩ (.slice (some ⟨g2, 0, none⟩) 6 6)).alloc (.cells #[.int .i64 3, .int .i64 1] 27)) (some ⟨g2, 0, none⟩) S6) :=
    (hO2.up (w3 := w2.setCell ⟨w1.heap.size, 0, none⟩ (.slice (some ⟨g2, 0, none⟩) 6 6)) (fun b hb _ => Below.heap_setCell _ _ _ _ (by show b ≠ w1.heap.size; omega))).nds.below ((Below.refl _ _).alloc (Nat.le_refl _) _)
  clear hb2 hO2
  go_wp2_with fail
  refine Calls.mono (DI.out g2 _ HN2.out) ?_
  rintro e w3 ⟨g3, rfl, hb3, hg3, hup3⟩
  have HV3 : Hid (VL (w3.setCell ⟨w1.heap.size, 0, none⟩ (.slice (some ⟨g3, 0, none⟩) 6 6)) w1.heap.size (w1.heap.size + 1) w2.heap.size g3) := (VL.below HL2.out hb3).set (by omega) (by omega)
  have HV0 : Hid (VL w3 w1.heap.size (w1.heap.size + 1) w2.heap.size g2) := VL.below HL2.out hb3
  simp only [World.size_alloc, World.size_setCell] at hb3 hg3
  have hs3 := hb3.size
  simp only [World.size_alloc, World.size_setCell] at hs3
  have HN3 : Hid (NdsAt (w3.setCell ⟨w1.heap.size, 0, none⟩ (.slice (some ⟨g3, 0, none⟩) 6 6)) (some ⟨g3, 0, none⟩) S7) := hup3 _ (fun b hb => Below.heap_setCell _ _ _ _ (by show b ≠ w1.heap.size; omega))
  have HB3 : Hid (Below w.heap.size w (w3.setCell ⟨w1.heap.size, 0, none⟩ (.slice (some ⟨g3, 0, none⟩) 6 6))) := (Below.trans ((HB2.out.setCell (by simp; exact HB1.out.size) _).alloc (by simp; exact HB2.out.size) _) (hb3.mono (by have := HB2.out.size; omega))).setCell (by simp; exact HB1.out.size) _
  clear hb3 hup3 c0 c1 d4 d5 HL2 HN2
  obtain ⟨⟨a0, a1⟩, ⟨b0, b1, b2, b3, b4, b5⟩, r0, r1⟩ := HV0.out
  have z1 : w1.heap.size < w3.heap.size := by omega
  have z2 : w2.heap.size < w3.heap.size := by omega
  have z3 : w1.heap.size + 1 < w3.heap.size := by omega
  go_wp2_with fail
  refine Calls.mono (DE.out g3 _ _ (HN3.out.below (one_belowS _ _)) (lh_at (by go_simp) (by go_simp) (by go_simp) (by go_simp) (by go_simp) (by go_simp) (by go_simp) (by go_simp) (by go_simp) (by go_simp) (by go_simp) (by go_simp) (by go_simp) (by go_simp) (by go_simp))) ?_
  rintro e w4 ⟨ca, cc, va, vc, rfl, hb4, hC4⟩
  have HC4 : Hid (CalsAt w4 ca CH7) := hC4
  have HB4 : Hid (Below w.heap.size w w4) := (HB3.out.trans ((one_belowS _ _).mono HB3.out.size)).trans (hb4.mono (by have := HB3.out.size; simp only [World.size_alloc]; omega))
  clear hb4 hC4 a0 a1 b0 b1 b2 b3 b4 b5 r0 r1 HV3 HV0 HN3
  go_wp2_with fail
  refine Calls.mono (EQ.out ca cc _ _ (HC4.out.below (one_belowS _ _)) (ch_at (by go_simp) (by go_simp) (by go_simp) (by go_simp) (by go_simp) (by go_simp) (by go_simp) (by go_simp) (by go_simp) (by go_simp) (by go_simp) (by go_simp))) ?_
  rintro e w5 ⟨rfl, hb5⟩
  have HB5 : Hid (Below w.heap.size w w5) := (HB4.out.trans ((one_belowS _ _).mono HB4.out.size)).trans (hb5.mono (by have := HB4.out.size; simp only [World.size_alloc]; omega))
  clear hb5
  go_wp2_with fail
  go_ret
  exact ⟨rfl, HB5.out⟩
end Go.Proofs.Ytplkfacaphejgaa

namespace Go.Proofs.Ytplkfacaphejgaa
open Go.ChangeShapes Go.WideShapes Go.ChangeAt Go.RowKit

set_option maxRecDepth 100000 in
theorem cellsHearer : Try.prog.cellsOf 39 = 5 := by kernel_rfl

theorem hearers_of (len : Nat) (P : Nat → Hr → Prop) (h : ∀ i, i < len → ∃ x, P i x) : ∃ S : List Hr, S.length = len ∧ ∀ i, i < len → P i (hr S i) := by
  induction len with
  | zero => exact ⟨[], rfl, fun i hi => absurd hi (Nat.not_lt_zero _)⟩
  | succ n ih =>
    obtain ⟨S, hl, hS⟩ := ih (fun i hi => h i (by omega))
    obtain ⟨x, hx⟩ := h n (by omega)
    refine ⟨S ++ [x], by simp [hl], fun i hi => ?_⟩
    unfold hr
    by_cases e : i = n
    · subst e
      rw [getD_elem _ _ (by simp [hl])]
      simpa [hl] using hx
    · have hi' : i < S.length := by omega
      have := hS i (by omega)
      unfold hr at this
      rw [getD_elem _ _ hi'] at this
      rw [getD_elem _ _ (by simp; omega), List.getElem_append_left hi']
      exact this

variable {H : Type} {enc : TypeId × Value → H} {w : World} {base : Nat} {spare : Nat → Bool} {held : Bool}

set_option maxRecDepth 100000 in
theorem open_hearers {r : Reach} {b0 : Nat} {v : Value} {d : DataW H} {p : List MemPlace} (hv : Value.okWide Try.prog w r b0 25 v) (h : DataW.Trod enc Try.prog w base spare held 25 v d p) :
    ∃ a c, ∃ q : List Hr, v = .slice a q.length c ∧ q.length ≤ 9223372036854775807 ∧ BigH q ∧ HrsAt w a q := by
  obtain ⟨a0, len0, cap0, rfl⟩ := okWide_slice Try.underlying25 hv
  obtain ⟨fuel, hf⟩ := h
  rcases Go.Deep.open_slice Try.underlying25 hf with ⟨e, _⟩ | ⟨a, len, cap, m, n, D, Pl, e, _, hl, hm, hmm, _, hx⟩
  · simp [Value.cells] at e
    obtain ⟨rfl, rfl, rfl⟩ := e
    exact ⟨none, 0, [], rfl, by simp, fun i hi => absurd hi (Nat.not_lt_zero _), fun i hi => absurd hi (Nat.not_lt_zero _)⟩
  · simp [Value.cells] at e
    obtain ⟨rfl, rfl, rfl⟩ := e
    have hlm : len0 ≤ m := by rw [hmm]; split <;> omega
    obtain ⟨ab, ao, spot⟩ := a
    by_cases h0 : len0 = 0
    · subst h0
      exact ⟨_, cap0, [], rfl, by simp, fun i hi => absurd hi (Nat.not_lt_zero _), fun i hi => absurd hi (Nat.not_lt_zero _)⟩
    · have hsp : spot = none := by
        obtain ⟨cs', hc, ht⟩ := hx 0 (by omega)
        rw [cellsHearer] at hc
        obtain ⟨_, hl8, hce⟩ := World.cells?_some hc
        have h1 := hce 0 (by omega)
        rw [List.getElem?_eq_getElem (by omega)] at h1
        simpa [Addr.add] using World.cell?_spot h1
      subst hsp
      obtain ⟨S, hS1, hS2⟩ := hearers_of len0 (fun i x => (w.cell? ⟨ab, ao + i * 5, none⟩ = some (.int .i64 x.pl) ∧ w.cell? ⟨ab, ao + i * 5 + 1, none⟩ = some (.bool x.dn) ∧ w.cell? ⟨ab, ao + i * 5 + 2, none⟩ = some (.bool x.on) ∧ w.cell? ⟨ab, ao + i * 5 + 3, none⟩ = some (.bool x.st) ∧ w.cell? ⟨ab, ao + i * 5 + 4, none⟩ = some (.int .i64 x.id)) ∧ (Lit.int .i64 x.id).wf = true) (fun i hi => by
        obtain ⟨cs', hc, ht⟩ := hx i (by omega)
        rw [cellsHearer] at hc
        obtain ⟨_, hl2, hce⟩ := World.cells?_some hc
        obtain ⟨xs, n', _, _, hl', hxl, hf'⟩ := DataW.trod_struct Try.underlying39 ht
        match cs', hl2 with
        | [a0, a1, a2, a3, a4], _ =>
          match xs, hxl with
          | [x0, x1, x2, x3, x4], _ =>
            have g0 := hf' 0 _ rfl
            have g1 := hf' 1 _ rfl
            have g2 := hf' 2 _ rfl
            have g3 := hf' 3 _ rfl
            have g4 := hf' 4 _ rfl
            obtain ⟨n0, e0, _⟩ := DataW.trod_int Try.underlying3 g0
            obtain ⟨n1, e1, _⟩ := DataW.trod_bool Try.underlying4 g1
            obtain ⟨n2, e2, _⟩ := DataW.trod_bool Try.underlying4 g2
            obtain ⟨n3, e3, _⟩ := DataW.trod_bool Try.underlying4 g3
            obtain ⟨n4, e4, w4⟩ := DataW.trod_int Try.underlying3 g4
            cases e0; cases e1; cases e2; cases e3; cases e4
            refine ⟨⟨n0, n1, n2, n3, n4⟩, ⟨?_, ?_, ?_, ?_, ?_⟩, ?_⟩
            · have h1 := hce 0 (by omega)
              rwa [add_plain, add_plain] at h1
            · have h1 := hce 1 (by omega)
              rwa [add_plain, add_plain] at h1
            · have h1 := hce 2 (by omega)
              rwa [add_plain, add_plain] at h1
            · have h1 := hce 3 (by omega)
              rwa [add_plain, add_plain] at h1
            · have h1 := hce 4 (by omega)
              rwa [add_plain, add_plain] at h1
            · first | exact w4.1 | exact w4.2 | exact w4)
      exact ⟨some ⟨ab, ao, none⟩, cap0, S, by rw [hS1], by rw [hS1]; unfold maxLen at hm; omega, fun i hi => (hS2 i (by omega)).2, fun i hi => ⟨ab, ao, rfl, (hS2 i (by omega)).1⟩⟩

end Go.Proofs.Ytplkfacaphejgaa
