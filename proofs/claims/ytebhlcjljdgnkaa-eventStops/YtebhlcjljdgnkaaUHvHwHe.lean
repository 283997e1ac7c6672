/-
  The closed fact: who hears, in which order.
-/
import Derived.Test.YtebhlcjljdgnkaaUHu
import Derived.Test.YtebhlcjljdgnkaaURiZiHm
import Derived.Test.YtebhlcjljdgnkaaURqRjRrZhZkRzHf
import Derived.Test.YtebhlcjljdgnkaaUHaSg
import Derived.Test.YtebhlcjljdgnkaaUNxTp
namespace Go.Proofs.Ytebhlcjljdgnkaa
open Go.RowKit
set_option linter.unusedVariables false

def LH : List Hr := [⟨0, false, false, false, 1⟩, ⟨0, true, true, false, 2⟩, ⟨2, false, false, false, 3⟩]
def CH7 : List Cal := [⟨2, 0, 1, 1⟩, ⟨3, 2, 2, 2⟩, ⟨1, 0, 1, 3⟩]
theorem lh_check : hcheckE LH 6 = 0 := by decide
theorem lh_big : BigH LH := fun i hi => by
  have hi' : i < 3 := hi
  match i, hi' with
  | 0, _ => decide
  | 1, _ => decide
  | 2, _ => decide
theorem lh_told : (toldF LH (spotsF [2, 3, 1, 0])).map (callH S7 2) = CH7 := by decide
theorem lh_left : (leftF LH ((toldF LH (spotsF [2, 3, 1, 0])).map Hr.id)).length = 2 := by decide

theorem lh_at {w : World} {d : Nat} (a0 : w.cell? ⟨d, 0, none⟩ = some (.int .i64 0)) (a1 : w.cell? ⟨d, 1, none⟩ = some (.bool false)) (a2 : w.cell? ⟨d, 2, none⟩ = some (.bool false)) (a3 : w.cell? ⟨d, 3, none⟩ = some (.bool false)) (a4 : w.cell? ⟨d, 4, none⟩ = some (.int .i64 1))
    (b0 : w.cell? ⟨d, 5, none⟩ = some (.int .i64 0)) (b1 : w.cell? ⟨d, 6, none⟩ = some (.bool true)) (b2 : w.cell? ⟨d, 7, none⟩ = some (.bool true)) (b3 : w.cell? ⟨d, 8, none⟩ = some (.bool false)) (b4 : w.cell? ⟨d, 9, none⟩ = some (.int .i64 2))
    (c0 : w.cell? ⟨d, 10, none⟩ = some (.int .i64 2)) (c1 : w.cell? ⟨d, 11, none⟩ = some (.bool false)) (c2 : w.cell? ⟨d, 12, none⟩ = some (.bool false)) (c3 : w.cell? ⟨d, 13, none⟩ = some (.bool false)) (c4 : w.cell? ⟨d, 14, none⟩ = some (.int .i64 3)) : HrsAt w (some ⟨d, 0, none⟩) LH := fun i hi => by
  have hi' : i < 3 := hi
  match i, hi' with
  | 0, _ => exact ⟨d, 0, rfl, a0, a1, a2, a3, a4⟩
  | 1, _ => exact ⟨d, 0, rfl, b0, b1, b2, b3, b4⟩
  | 2, _ => exact ⟨d, 0, rfl, c0, c1, c2, c3, c4⟩
theorem ch_at {w : World} {d : Nat} (a0 : w.cell? ⟨d, 0, none⟩ = some (.int .i64 2)) (a1 : w.cell? ⟨d, 1, none⟩ = some (.int .i64 0)) (a2 : w.cell? ⟨d, 2, none⟩ = some (.int .i64 1)) (a3 : w.cell? ⟨d, 3, none⟩ = some (.int .i64 1))
    (b0 : w.cell? ⟨d, 4, none⟩ = some (.int .i64 3)) (b1 : w.cell? ⟨d, 5, none⟩ = some (.int .i64 2)) (b2 : w.cell? ⟨d, 6, none⟩ = some (.int .i64 2)) (b3 : w.cell? ⟨d, 7, none⟩ = some (.int .i64 2))
    (c0 : w.cell? ⟨d, 8, none⟩ = some (.int .i64 1)) (c1 : w.cell? ⟨d, 9, none⟩ = some (.int .i64 0)) (c2 : w.cell? ⟨d, 10, none⟩ = some (.int .i64 1)) (c3 : w.cell? ⟨d, 11, none⟩ = some (.int .i64 3)) : CalsAt w (some ⟨d, 0, none⟩) CH7 := fun i hi => by
  have hi' : i < 3 := hi
  match i, hi' with
  | 0, _ => exact ⟨d, 0, rfl, a0, a1, a2, a3⟩
  | 1, _ => exact ⟨d, 0, rfl, b0, b1, b2, b3⟩
  | 2, _ => exact ⟨d, 0, rfl, c0, c1, c2, c3⟩

def HappenedOk : Prop := ∀ w : World, Calls Try.prog 6 #[] w fun e w' => e = .returned (.bool true) ∧ Below w.heap.size w w'

set_option maxRecDepth 100000 in
set_option maxHeartbeats 4000000 in
theorem happened_ok : HappenedOk := by
  intro w
  have FA : Hid (∀ W, Calls _ _ _ _ _) := fun W => family_any W
  have DA : Hid (∀ g W, NdsAt W (some ⟨g, 0, none⟩) S5 → Calls Try.prog 28 #[.agg #[.slice (some ⟨g, 0, none⟩) 6 6], .agg #[.int .i64 1, .int .i64 1], .bool true] W fun e w' => ∃ g, e = .returned (.tuple #[.agg #[.slice (some ⟨g, 0, none⟩) 6 6], .agg #[.int .i64 3, .int .i64 1], .int .i64 0]) ∧ Below W.heap.size W w' ∧ W.heap.size ≤ g ∧ OwnR w' g S6) := fun g W hW =>
    attach_ok (some ⟨g, 0, none⟩) 6 S5 1 3 1 true W s5_wfZi hW (by decide) s5_f1 (by decide) (by decide) (by decide) (by decide)
  have DI : Hid (∀ g W, NdsAt W (some ⟨g, 0, none⟩) S6 → Calls Try.prog 29 #[.agg #[.slice (some ⟨g, 0, none⟩) 6 6], .agg #[.int .i64 3, .int .i64 1], .agg #[.int .i64 2, .int .i64 1], .slice none 0 0] W fun e w' => ∃ g, e = .returned (.tuple #[.agg #[.slice (some ⟨g, 0, none⟩) 6 6], .int .i64 0]) ∧ Below W.heap.size W w' ∧ W.heap.size ≤ g ∧ ∀ w3 : World, (∀ b, g ≤ b → w3.heap[b]? = w'.heap[b]?) → NdsAt w3 (some ⟨g, 0, none⟩) S7) := fun g W hW =>
    insert0_ok (some ⟨g, 0, none⟩) 6 S6 3 2 1 1 none 0 0 W (by decide) s6_wf.big hW s6_check (by decide) (by decide) (by decide) (by decide) (Or.inr ⟨0, by decide, by decide, by decide⟩) (by decide) (by decide) (by decide)
  have DE : Hid (∀ g lb W, NdsAt W (some ⟨g, 0, none⟩) S7 → HrsAt W (some ⟨lb, 0, none⟩) LH → Calls Try.prog 5 #[.agg #[.slice (some ⟨g, 0, none⟩) 6 6], .slice (some ⟨lb, 0, none⟩) 3 3, .agg #[.int .i64 2, .int .i64 1]] W fun e w' => ∃ ca cc va vc, e = .returned (.tuple #[.slice ca 3 cc, .slice va 2 vc, .int .i64 0]) ∧ Below W.heap.size W w' ∧ CalsAt w' ca CH7) := fun g lb W hW hH => by
    have h := disp_ok (some ⟨g, 0, none⟩) 6 S7 (some ⟨lb, 0, none⟩) 3 LH 2 1 W s7_wf hW (by decide) s7_2 lh_big hH (fun e => by cases e) lh_check
    rw [s7_p] at h
    refine Calls.mono h ?_
    rintro e w' ⟨ca, cc, va, vc, rfl, hb, hC, _⟩
    rw [lh_told] at hC
    exact ⟨ca, cc, va, vc, by rw [lh_told, lh_left]; rfl, hb, hC⟩
  have EQ : Hid (∀ (ca : Option Addr) (cc vb : Nat) (W : World), CalsAt W ca CH7 → CalsAt W (some ⟨vb, 0, none⟩) CH7 → Calls Try.prog 16 #[.slice ca 3 cc, .slice (some ⟨vb, 0, none⟩) 3 3] W fun e w' => e = .returned (.bool true) ∧ Below W.heap.size W w') := fun ca cc vb W h1 h2 => equalCals_same ca (some ⟨vb, 0, none⟩) cc 3 CH7 W (by decide) h1 h2
  go_enter Try.func6, Try.ntmps6
  go_wp2_with fail
  refine (FA.out _).mono ?_
  rintro e w1 ⟨g, rfl, hb1, hS1⟩
  have HS1 : Hid (NdsAt w1 (some ⟨g, 0, none⟩) S5) := hS1
  have HB1 : Hid (Below w.heap.size w w1) := hb1
  clear hS1 hb1
  go_wp2_with fail
  refine Calls.mono (DA.out g _ (HS1.out.below (two_below _ _ _))) ?_
  rintro e w2 ⟨g2, rfl, hb2, hg2, hO2⟩
  simp only [World.size_alloc] at hb2 hg2
  have hs2 := hb2.size
  simp only [World.size_alloc] at hs2
  have HL2 : Hid (VL ((w2.setCell ⟨w1.heap.size, 0, none⟩ (.slice (some ⟨g2, 0, none⟩) 6 6)).alloc (.cells #[.int .i64 3, .int .i64 1] 27)) w1.heap.size (w1.heap.size + 1) w2.heap.size g2) := by
    have c0 : w2.cell? ⟨w1.heap.size, 0, none⟩ = some (.slice (some ⟨g, 0, none⟩) 6 6) := (hb2.cell (by simp; omega)).trans (by go_simp)
    have c1 : ∀ o, w2.frozen? ⟨w1.heap.size, o, none⟩ = false := fun o => (hb2.frozen (by simp; omega)).trans (by go_simp)
    have d0 : w2.cell? ⟨w1.heap.size + 1, 0, none⟩ = some (.int .i64 0) := (hb2.cell (by simp)).trans (by go_simp)
    have d1 : w2.cell? ⟨w1.heap.size + 1, 1, none⟩ = some (.int .i64 1) := (hb2.cell (by simp)).trans (by go_simp)
    have d2 : w2.cell? ⟨w1.heap.size + 1, 2, none⟩ = some (.int .i64 1) := (hb2.cell (by simp)).trans (by go_simp)
    have d3 : w2.cell? ⟨w1.heap.size + 1, 3, none⟩ = some (.int .i64 1) := (hb2.cell (by simp)).trans (by go_simp)
    have d4 : w2.cell? ⟨w1.heap.size + 1, 4, none⟩ = some (.int .i64 2) := (hb2.cell (by simp)).trans (by go_simp)
    have d5 : w2.cell? ⟨w1.heap.size + 1, 5, none⟩ = some (.int .i64 1) := (hb2.cell (by simp)).trans (by go_simp)
    have n0 : w1.heap.size < w2.heap.size := by omega
    have n1 : w1.heap.size + 1 < w2.heap.size := by omega
    refine ⟨⟨?_, fun o => ?_⟩, ⟨?_, ?_, ?_, ?_, ?_, ?_⟩, ?_, ?_⟩
    all_goals go_simp
  have c0 : w2.cell? ⟨w1.heap.size, 0, none⟩ = some (.slice (some ⟨g, 0, none⟩) 6 6) := (hb2.cell (by simp; omega)).trans (by go_simp)
  have c1 : ∀ o, w2.frozen? ⟨w1.heap.size, o, none⟩ = false := fun o => (hb2.frozen (by simp; omega)).trans (by go_simp)
  have d4 : w2.cell? ⟨w1.heap.size + 1, 4, none⟩ = some (.int .i64 2) := (hb2.cell (by simp)).trans (by go_simp)
  have d5 : w2.cell? ⟨w1.heap.size + 1, 5, none⟩ = some (.int .i64 1) := (hb2.cell (by simp)).trans (by go_simp)
  have n0 : w1.heap.size < w2.heap.size := by omega
  have n1 : w1.heap.size + 1 < w2.heap.size := by omega
  have HB2 : Hid (Below w.heap.size w w2) := HB1.out.trans (((two_below _ _ _).trans (hb2.mono (by omega))).mono HB1.out.size)
  have HN2 : Hid (NdsAt ((w2.setCell ⟨w1.heap.size, 0, none⟩ (.slice (some ⟨g2, 0, none⟩) 6 6)).alloc (.cells #[.int .i64 3, .int .i64 1] 27)) (some ⟨g2, 0, none⟩) S6) :=
    (hO2.up (w3 := w2.setCell ⟨w1.heap.size, 0, none⟩ (.slice (some ⟨g2, 0, none⟩) 6 6)) (fun b hb _ => Below.heap_setCell _ _ _ _ (by show b ≠ w1.heap.size; omega))).nds.below ((Below.refl _ _).alloc (Nat.le_refl _) _)
  clear hb2 hO2
  go_wp2_with fail
  refine Calls.mono (DI.out g2 _ HN2.out) ?_
  rintro e w3 ⟨g3, rfl, hb3, hg3, hup3⟩
  have HV3 : Hid (VL (w3.setCell ⟨w1.heap.size, 0, none⟩ (.slice (some ⟨g3, 0, none⟩) 6 6)) w1.heap.size (w1.heap.size + 1) w2.heap.size g3) := (VL.below HL2.out hb3).set (by omega) (by omega)
  have HV0 : Hid (VL w3 w1.heap.size (w1.heap.size + 1) w2.heap.size g2) := VL.below HL2.out hb3
  simp only [World.size_alloc, World.size_setCell] at hb3 hg3
  have hs3 := hb3.size
  simp only [World.size_alloc, World.size_setCell] at hs3
  have HN3 : Hid (NdsAt (w3.setCell ⟨w1.heap.size, 0, none⟩ (.slice (some ⟨g3, 0, none⟩) 6 6)) (some ⟨g3, 0, none⟩) S7) := hup3 _ (fun b hb => Below.heap_setCell _ _ _ _ (by show b ≠ w1.heap.size; omega))
  have HB3 : Hid (Below w.heap.size w (w3.setCell ⟨w1.heap.size, 0, none⟩ (.slice (some ⟨g3, 0, none⟩) 6 6))) := (Below.trans ((HB2.out.setCell (by simp; exact HB1.out.size) _).alloc (by simp; exact HB2.out.size) _) (hb3.mono (by have := HB2.out.size; omega))).setCell (by simp; exact HB1.out.size) _
  clear hb3 hup3 c0 c1 d4 d5 HL2 HN2
  obtain ⟨⟨a0, a1⟩, ⟨b0, b1, b2, b3, b4, b5⟩, r0, r1⟩ := HV0.out
  have z1 : w1.heap.size < w3.heap.size := by omega
  have z2 : w2.heap.size < w3.heap.size := by omega
  have z3 : w1.heap.size + 1 < w3.heap.size := by omega
  go_wp2_with fail
  refine Calls.mono (DE.out g3 _ _ (HN3.out.below (one_belowS _ _)) (lh_at (by go_simp) (by go_simp) (by go_simp) (by go_simp) (by go_simp) (by go_simp) (by go_simp) (by go_simp) (by go_simp) (by go_simp) (by go_simp) (by go_simp) (by go_simp) (by go_simp) (by go_simp))) ?_
  rintro e w4 ⟨ca, cc, va, vc, rfl, hb4, hC4⟩
  have HC4 : Hid (CalsAt w4 ca CH7) := hC4
  have HB4 : Hid (Below w.heap.size w w4) := (HB3.out.trans ((one_belowS _ _).mono HB3.out.size)).trans (hb4.mono (by have := HB3.out.size; simp only [World.size_alloc]; omega))
  clear hb4 hC4 a0 a1 b0 b1 b2 b3 b4 b5 r0 r1 HV3 HV0 HN3
  go_wp2_with fail
  refine Calls.mono (EQ.out ca cc _ _ (HC4.out.below (one_belowS _ _)) (ch_at (by go_simp) (by go_simp) (by go_simp) (by go_simp) (by go_simp) (by go_simp) (by go_simp) (by go_simp) (by go_simp) (by go_simp) (by go_simp) (by go_simp))) ?_
  rintro e w5 ⟨rfl, hb5⟩
  have HB5 : Hid (Below w.heap.size w w5) := (HB4.out.trans ((one_belowS _ _).mono HB4.out.size)).trans (hb5.mono (by have := HB4.out.size; simp only [World.size_alloc]; omega))
  clear hb5
  go_wp2_with fail
  go_ret
  exact ⟨rfl, HB5.out⟩
end Go.Proofs.Ytebhlcjljdgnkaa

namespace Go.Proofs.Ytebhlcjljdgnkaa
open Go.RowKit

theorem WF.path_nodup' {S : List Nd} (h : WF S) : ∀ (f k : Nat), k < S.length → (∀ j z, Up S j k z → j < f) → (pathF S k).Nodup
  | 0, k, _, hf => absurd (hf 0 k rfl) (Nat.not_lt_zero _)
  | f + 1, k, hk, hf => by
    by_cases hr : ∃ q : Nat, q < S.length ∧ rightUnder (nd S k) = q
    · obtain ⟨q, hq, hr⟩ := hr
      rw [h.path_up hk hq hr, List.nodup_cons]
      refine ⟨fun hm => ?_, h.path_nodup' f q hq (fun j z hu => ?_)⟩
      · obtain ⟨q', j, e, _, hu⟩ := mem_path hq hm
        have e2 : q' = k := by omega
        subst e2
        have hu2 : Up S (j + 1) q' q' := ⟨q, hq, hr, hu⟩
        exact h.no_ring hk (by omega) (by have := h.up_short hk hu2; omega) hu2
      · have := hf (j + 1) z ⟨q, hq, hr, hu⟩
        omega
    · rw [WF.path_top hr]
      simp
theorem WF.path_nodup {S : List Nd} (h : WF S) {k : Nat} (hk : k < S.length) : (pathF S k).Nodup := h.path_nodup' S.length k hk (fun j z hu => by have := h.up_short hk hu; omega)

theorem one_id {L : List Hr} (hL : (L.map Hr.id).Nodup) : ∀ h ∈ L, ∀ h' ∈ L, h.id = h'.id → h = h' := by
  have hL2 : L.Pairwise fun h h' => h.id ≠ h'.id := by rw [List.Nodup, List.pairwise_map] at hL; exact hL
  induction L with
  | nil => intro h hm; simp at hm
  | cons a t ih =>
    rw [List.pairwise_cons] at hL2
    rw [List.map_cons, List.nodup_cons] at hL
    intro h hm h' hm' e
    rw [List.mem_cons] at hm hm'
    rcases hm with rfl | hm <;> rcases hm' with rfl | hm'
    · rfl
    · exact absurd e (hL2.1 _ hm')
    · exact absurd e.symm (hL2.1 _ hm)
    · exact ih hL.2 hL2.2 h hm h' hm' e

def upF (T : List Hr) (i : Nat) : Bool := (T.take i).any fun h => !h.dn
theorem up_step {T : List Hr} {i : Nat} (h : i < T.length) : upF T (i + 1) = (upF T i || !(hr T i).dn) := by
  unfold upF
  rw [List.take_succ_eq_append_getElem h, List.any_append, hr_elem h]
  simp
theorem up_dn {T : List Hr} (hT : T.Pairwise fun h h' => h.dn = false → h'.dn = false) {i : Nat} (h : i < T.length) (hu : upF T i = true) : (hr T i).dn = false := by
  unfold upF at hu
  obtain ⟨x, hx, hxd⟩ := List.any_eq_true.1 hu
  have hs : (T.take (i + 1)).Pairwise fun h h' => h.dn = false → h'.dn = false := hT.sublist (List.take_sublist _ _)
  rw [List.take_succ_eq_append_getElem h, List.pairwise_append] at hs
  rw [hr_elem h]
  exact hs.2.2 x hx T[i] (by simp) (by simpa using hxd)

theorem left_has {L : List Hr} {T : List Int} {x : Hr} (hx : x ∈ L) : decide (x ∈ leftF L T) = !(x.on && decide (x.id ∈ T)) := by
  cases h : (!(x.on && decide (x.id ∈ T))) with
  | true => exact decide_eq_true (List.mem_filter.2 ⟨hx, h⟩)
  | false => exact decide_eq_false (fun hm => by have h2 := (List.mem_filter.1 hm).2; rw [h] at h2; cases h2)

/-- One call of an event. -/
structure CallOk (S : List Nd) (L : List Hr) (k : Nat) (T : List Hr) (i : Nat) (h : Hr) (q t : Nat) : Prop where
  cl : cal (T.map (callH S k)) i = ⟨h.id, q, t, phaseF t q h.dn⟩
  mem : h ∈ L
  pl : h.pl = q
  qn : q < S.length
  qu : (nd S q).u = true
  qp : (q : Int) ∈ pathF S k
  tn : t < S.length
  tu : (nd S t).u = true
  sn : seenF S q t = true
  id : (T.map Hr.id).getD i 0 = h.id
  up : upF T (i + 1) = (upF T i || !h.dn)
  dn : upF T i = true → h.dn = false

theorem call_facts {S : List Nd} {L : List Hr} {k : Nat} (wf : WF S) (hk : k < S.length) (hku : (nd S k).u = true) {i : Nat} (hi : i < (toldF L (spotsF (pathF S k))).length) : ∃ (h : Hr) (q t : Nat), CallOk S L k (toldF L (spotsF (pathF S k))) i h q t := by
  have hord := told_order L (pathF S k)
  have hmem : hr (toldF L (spotsF (pathF S k))) i ∈ toldF L (spotsF (pathF S k)) := by rw [hr_elem hi]; exact List.getElem_mem hi
  obtain ⟨hl, hs⟩ := told_mem hmem
  have hp := spots_mem hs
  have hup := up_step hi
  have hdn := up_dn hord hi
  generalize hT : toldF L (spotsF (pathF S k)) = T at *
  have hcal : cal (T.map (callH S k)) i = callH S k (hr T i) := by
    rw [cal_elem (by simpa using hi), hr_elem hi]
    simp
  have hid : (T.map Hr.id).getD i 0 = (hr T i).id := by
    rw [hr_elem hi, List.getD_eq_getElem?_getD, List.getElem?_map, List.getElem?_eq_getElem hi]
    rfl
  generalize hr T i = h at *
  dsimp only at hp
  obtain ⟨q, e, hq, hqu⟩ := wf.path_used hk hku hp
  obtain ⟨t, t1, t2, t3, t4, t5, t6⟩ := wf.target (p := q) hk hku
  refine ⟨h, q, t, ?_, hl, e, hq, hqu, by rw [← e]; exact hp, t2, t3, seen_of_roots t5, hid, hup, hdn⟩
  rw [hcal]
  unfold callH callF
  dsimp only
  rw [e, Int.toNat_natCast, t1]
end Go.Proofs.Ytebhlcjljdgnkaa

namespace Go.Proofs.Ytebhlcjljdgnkaa
open Go.ChangeShapes Go.WideShapes Go.ChangeAt Go.RowKit

set_option maxRecDepth 100000 in
theorem cellsHearer : Try.prog.cellsOf 41 = 5 := by kernel_rfl

theorem hearers_of (len : Nat) (P : Nat → Hr → Prop) (h : ∀ i, i < len → ∃ x, P i x) : ∃ S : List Hr, S.length = len ∧ ∀ i, i < len → P i (hr S i) := by
  induction len with
  | zero => exact ⟨[], rfl, fun i hi => absurd hi (Nat.not_lt_zero _)⟩
  | succ n ih =>
    obtain ⟨S, hl, hS⟩ := ih (fun i hi => h i (by omega))
    obtain ⟨x, hx⟩ := h n (by omega)
    refine ⟨S ++ [x], by simp [hl], fun i hi => ?_⟩
    unfold hr
    by_cases e : i = n
    · subst e
      rw [getD_elem _ _ (by simp [hl])]
      simpa [hl] using hx
    · have hi' : i < S.length := by omega
      have := hS i (by omega)
      unfold hr at this
      rw [getD_elem _ _ hi'] at this
      rw [getD_elem _ _ (by simp; omega), List.getElem_append_left hi']
      exact this

variable {H : Type} {enc : TypeId × Value → H} {w : World} {base : Nat} {spare : Nat → Bool} {held : Bool}

set_option maxRecDepth 100000 in
theorem open_hearers {r : Reach} {b0 : Nat} {v : Value} {d : DataW H} {p : List MemPlace} (hv : Value.okWide Try.prog w r b0 25 v) (h : DataW.Trod enc Try.prog w base spare held 25 v d p) :
    ∃ a c, ∃ q : List Hr, v = .slice a q.length c ∧ q.length ≤ 9223372036854775807 ∧ BigH q ∧ HrsAt w a q := by
  obtain ⟨a0, len0, cap0, rfl⟩ := okWide_slice Try.underlying25 hv
  obtain ⟨fuel, hf⟩ := h
  rcases Go.Deep.open_slice Try.underlying25 hf with ⟨e, _⟩ | ⟨a, len, cap, m, n, D, Pl, e, _, hl, hm, hmm, _, hx⟩
  · simp [Value.cells] at e
    obtain ⟨rfl, rfl, rfl⟩ := e
    exact ⟨none, 0, [], rfl, by simp, fun i hi => absurd hi (Nat.not_lt_zero _), fun i hi => absurd hi (Nat.not_lt_zero _)⟩
  · simp [Value.cells] at e
    obtain ⟨rfl, rfl, rfl⟩ := e
    have hlm : len0 ≤ m := by rw [hmm]; split <;> omega
    obtain ⟨ab, ao, spot⟩ := a
    by_cases h0 : len0 = 0
    · subst h0
      exact ⟨_, cap0, [], rfl, by simp, fun i hi => absurd hi (Nat.not_lt_zero _), fun i hi => absurd hi (Nat.not_lt_zero _)⟩
    · have hsp : spot = none := by
        obtain ⟨cs', hc, ht⟩ := hx 0 (by omega)
        rw [cellsHearer] at hc
        obtain ⟨_, hl8, hce⟩ := World.cells?_some hc
        have h1 := hce 0 (by omega)
        rw [List.getElem?_eq_getElem (by omega)] at h1
        simpa [Addr.add] using World.cell?_spot h1
      subst hsp
      obtain ⟨S, hS1, hS2⟩ := hearers_of len0 (fun i x => (w.cell? ⟨ab, ao + i * 5, none⟩ = some (.int .i64 x.pl) ∧ w.cell? ⟨ab, ao + i * 5 + 1, none⟩ = some (.bool x.dn) ∧ w.cell? ⟨ab, ao + i * 5 + 2, none⟩ = some (.bool x.on) ∧ w.cell? ⟨ab, ao + i * 5 + 3, none⟩ = some (.bool x.st) ∧ w.cell? ⟨ab, ao + i * 5 + 4, none⟩ = some (.int .i64 x.id)) ∧ (Lit.int .i64 x.id).wf = true) (fun i hi => by
        obtain ⟨cs', hc, ht⟩ := hx i (by omega)
        rw [cellsHearer] at hc
        obtain ⟨_, hl2, hce⟩ := World.cells?_some hc
        obtain ⟨xs, n', _, _, hl', hxl, hf'⟩ := DataW.trod_struct Try.underlying41 ht
        match cs', hl2 with
        | [a0, a1, a2, a3, a4], _ =>
          match xs, hxl with
          | [x0, x1, x2, x3, x4], _ =>
            have g0 := hf' 0 _ rfl
            have g1 := hf' 1 _ rfl
            have g2 := hf' 2 _ rfl
            have g3 := hf' 3 _ rfl
            have g4 := hf' 4 _ rfl
            obtain ⟨n0, e0, _⟩ := DataW.trod_int Try.underlying3 g0
            obtain ⟨n1, e1, _⟩ := DataW.trod_bool Try.underlying4 g1
            obtain ⟨n2, e2, _⟩ := DataW.trod_bool Try.underlying4 g2
            obtain ⟨n3, e3, _⟩ := DataW.trod_bool Try.underlying4 g3
            obtain ⟨n4, e4, w4⟩ := DataW.trod_int Try.underlying3 g4
            cases e0; cases e1; cases e2; cases e3; cases e4
            refine ⟨⟨n0, n1, n2, n3, n4⟩, ⟨?_, ?_, ?_, ?_, ?_⟩, ?_⟩
            · have h1 := hce 0 (by omega)
              rwa [add_plain, add_plain] at h1
            · have h1 := hce 1 (by omega)
              rwa [add_plain, add_plain] at h1
            · have h1 := hce 2 (by omega)
              rwa [add_plain, add_plain] at h1
            · have h1 := hce 3 (by omega)
              rwa [add_plain, add_plain] at h1
            · have h1 := hce 4 (by omega)
              rwa [add_plain, add_plain] at h1
            · first | exact w4.1 | exact w4.2 | exact w4)
      exact ⟨some ⟨ab, ao, none⟩, cap0, S, by rw [hS1], by rw [hS1]; unfold maxLen at hm; omega, fun i hi => (hS2 i (by omega)).2, fun i hi => ⟨ab, ao, rfl, (hS2 i (by omega)).1⟩⟩

end Go.Proofs.Ytebhlcjljdgnkaa
