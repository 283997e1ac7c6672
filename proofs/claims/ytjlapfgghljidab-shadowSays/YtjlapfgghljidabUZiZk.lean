/-
  The closed fact veiled.
-/
import Derived.Test.YtjlapfgghljidabUZgZbZc
import Derived.Test.YtjlapfgghljidabUZe
import Derived.Test.YtjlapfgghljidabUWc
namespace Go.Proofs.Ytjlapfgghljidab
open Go.RowKit

theorem s5_wfZi : WF S5 := (wf_iff _).1 (by decide)
def S6 : List Nd := S5.set 3 (rootNd (nd S5 3) 1 true)
def S7 : List Nd := enterS (leaveG S6 2) 3 2 0
theorem s6_wf : WF S6 := (wf_iff _).1 (by decide)
theorem s7_wf : WF S7 := (wf_iff _).1 (by decide)
theorem s6_check : tcheckE S6 [(((3 : Nat) : Int), 1), (((2 : Nat) : Int), 1)] = 0 := by decide
theorem s7_a : seenF S7 0 2 = false := by decide
theorem s7_b : seenF S7 3 2 = true := by decide
theorem s7_p : pathF S7 2 = [2, 3, 1, 0] := by decide
theorem s7_t : targetF S7 2 0 = 1 := by decide
theorem s7_0 : findE S7 ((0 : Nat) : Int) 1 = 0 := by decide
theorem s7_2 : findE S7 ((2 : Nat) : Int) 1 = 0 := by decide
theorem s7_3 : findE S7 ((3 : Nat) : Int) 1 = 0 := by decide
theorem s5_f1 : findE S5 ((1 : Nat) : Int) 1 = 0 := by decide

/-- The variables of veiled: the store, the hands, the root's hand. -/
def VL (X : World) (bs bh br g : Nat) : Prop :=
  (X.cell? ⟨bs, 0, none⟩ = some (.slice (some ⟨g, 0, none⟩) 6 6) ∧ (∀ o, X.frozen? ⟨bs, o, none⟩ = false)) ∧ (X.cell? ⟨bh, 0, none⟩ = some (.int .i64 0) ∧ X.cell? ⟨bh, 1, none⟩ = some (.int .i64 1) ∧ X.cell? ⟨bh, 2, none⟩ = some (.int .i64 1) ∧ X.cell? ⟨bh, 3, none⟩ = some (.int .i64 1) ∧ X.cell? ⟨bh, 4, none⟩ = some (.int .i64 2) ∧ X.cell? ⟨bh, 5, none⟩ = some (.int .i64 1)) ∧ (X.cell? ⟨br, 0, none⟩ = some (.int .i64 3) ∧ X.cell? ⟨br, 1, none⟩ = some (.int .i64 1))

theorem VL.below {X Y : World} {bs bh br g : Nat} (h : VL X bs bh br g) (hb : Below X.heap.size X Y) : VL Y bs bh br g := by
  obtain ⟨⟨a0, a1⟩, ⟨b0, b1, b2, b3, b4, b5⟩, c0, c1⟩ := h
  have l0 := World.block_lt_of_cell? _ _ a0
  have l1 := World.block_lt_of_cell? _ _ b0
  have l2 := World.block_lt_of_cell? _ _ c0
  exact ⟨⟨(hb.cell l0).trans a0, fun o => (hb.frozen (p := ⟨bs, o, none⟩) l0).trans (a1 o)⟩, ⟨(hb.cell (p := ⟨bh, 0, none⟩) l1).trans b0, (hb.cell (p := ⟨bh, 1, none⟩) l1).trans b1, (hb.cell (p := ⟨bh, 2, none⟩) l1).trans b2, (hb.cell (p := ⟨bh, 3, none⟩) l1).trans b3, (hb.cell (p := ⟨bh, 4, none⟩) l1).trans b4, (hb.cell (p := ⟨bh, 5, none⟩) l1).trans b5⟩, (hb.cell (p := ⟨br, 0, none⟩) l2).trans c0, (hb.cell (p := ⟨br, 1, none⟩) l2).trans c1⟩

theorem VL.set {X : World} {bs bh br g g' : Nat} (h : VL X bs bh br g) (h1 : bs ≠ bh) (h2 : bs ≠ br) : VL (X.setCell ⟨bs, 0, none⟩ (.slice (some ⟨g', 0, none⟩) 6 6)) bs bh br g' := by
  obtain ⟨⟨a0, a1⟩, ⟨b0, b1, b2, b3, b4, b5⟩, c0, c1⟩ := h
  refine ⟨⟨World.cell?_setCell_same _ _ _ a0, fun o => by rw [World.frozen?_setCell]; exact a1 o⟩, ⟨?_, ?_, ?_, ?_, ?_, ?_⟩, ?_, ?_⟩
  all_goals
    rw [World.cell?_setCell_other _ _ _ _ (addr_block (by first | exact h1 | exact h2))]
    assumption

def VeiledOk : Prop := ∀ w : World, Calls Try.prog 30 #[] w fun e w' => e = .returned (.bool true) ∧ Below w.heap.size w w'

set_option maxRecDepth 100000 in
set_option maxHeartbeats 4000000 in
theorem veiled_ok : VeiledOk := by
  intro w
  have FA : Hid (∀ W, Calls _ _ _ _ _) := fun W => family_any W
  have DA : Hid (∀ g W, NdsAt W (some ⟨g, 0, none⟩) S5 → Calls Try.prog 25 #[.agg #[.slice (some ⟨g, 0, none⟩) 6 6], .agg #[.int .i64 1, .int .i64 1], .bool true] W fun e w' => ∃ g, e = .returned (.tuple #[.agg #[.slice (some ⟨g, 0, none⟩) 6 6], .agg #[.int .i64 3, .int .i64 1], .int .i64 0]) ∧ Below W.heap.size W w' ∧ W.heap.size ≤ g ∧ OwnR w' g S6) := fun g W hW =>
    attach_ok (some ⟨g, 0, none⟩) 6 S5 1 3 1 true W s5_wfZi hW (by decide) s5_f1 (by decide) (by decide) (by decide) (by decide)
  have DI : Hid (∀ g W, NdsAt W (some ⟨g, 0, none⟩) S6 → Calls Try.prog 42 #[.agg #[.slice (some ⟨g, 0, none⟩) 6 6], .agg #[.int .i64 3, .int .i64 1], .agg #[.int .i64 2, .int .i64 1], .slice none 0 0] W fun e w' => ∃ g, e = .returned (.tuple #[.agg #[.slice (some ⟨g, 0, none⟩) 6 6], .int .i64 0]) ∧ Below W.heap.size W w' ∧ W.heap.size ≤ g ∧ ∀ w3 : World, (∀ b, g ≤ b → w3.heap[b]? = w'.heap[b]?) → NdsAt w3 (some ⟨g, 0, none⟩) S7) := fun g W hW =>
    insert0_ok (some ⟨g, 0, none⟩) 6 S6 3 2 1 1 none 0 0 W (by decide) s6_wf.big hW s6_check (by decide) (by decide) (by decide) (by decide) (Or.inr ⟨0, by decide, by decide, by decide⟩) (by decide) (by decide) (by decide)
  have DS1 : Hid (∀ g W, NdsAt W (some ⟨g, 0, none⟩) S7 → Calls Try.prog 26 #[.agg #[.slice (some ⟨g, 0, none⟩) 6 6], .agg #[.int .i64 0, .int .i64 1], .agg #[.int .i64 2, .int .i64 1]] W fun e w' => e = .returned (.tuple #[.bool false, .int .i64 0]) ∧ Below W.heap.size W w') := fun g W hW => by
    have h := seen_ok (some ⟨g, 0, none⟩) 6 S7 0 2 1 1 W s7_wf hW (by decide) (by decide) s7_0 s7_2
    rw [s7_a] at h
    exact h
  have DS2 : Hid (∀ g W, NdsAt W (some ⟨g, 0, none⟩) S7 → Calls Try.prog 26 #[.agg #[.slice (some ⟨g, 0, none⟩) 6 6], .agg #[.int .i64 3, .int .i64 1], .agg #[.int .i64 2, .int .i64 1]] W fun e w' => e = .returned (.tuple #[.bool true, .int .i64 0]) ∧ Below W.heap.size W w') := fun g W hW => by
    have h := seen_ok (some ⟨g, 0, none⟩) 6 S7 3 2 1 1 W s7_wf hW (by decide) (by decide) s7_3 s7_2
    rw [s7_b] at h
    exact h
  have DP : Hid (∀ g W, NdsAt W (some ⟨g, 0, none⟩) S7 → Calls Try.prog 27 #[.agg #[.slice (some ⟨g, 0, none⟩) 6 6], .agg #[.int .i64 2, .int .i64 1]] W fun e w' => ∃ ra rc, e = .returned (.tuple #[.slice ra 4 rc, .int .i64 0]) ∧ Below W.heap.size W w' ∧ IntsAt w' ra [2, 3, 1, 0]) := fun g W hW => by
    have h := path_ok (some ⟨g, 0, none⟩) 6 S7 2 1 W s7_wf hW (by decide) s7_2
    rw [s7_p] at h
    refine Calls.mono h ?_
    rintro e w' ⟨v, rfl, hb, hown⟩
    obtain ⟨ra, rc, hv, hi, _⟩ := own_slice hown
    exact ⟨ra, rc, by rw [hv]; rfl, hb, hi⟩
  have DT : Hid (∀ g W, NdsAt W (some ⟨g, 0, none⟩) S7 → Calls Try.prog 34 #[.agg #[.slice (some ⟨g, 0, none⟩) 6 6], .int .i64 2, .int .i64 0] W fun e w' => e = .returned (.int .i64 1) ∧ Below W.heap.size W w') := fun g W hW => by
    have h := target_any (some ⟨g, 0, none⟩) 6 S7 2 0 W (by decide) hW (by decide) (by decide)
    rw [s7_t] at h
    exact h
  have EQ : Hid (∀ (ra : Option Addr) (rc vb : Nat) (W : World), IntsAt W ra [2, 3, 1, 0] → W.cell? ⟨vb, 0, none⟩ = some (.int .i64 2) → W.cell? ⟨vb, 1, none⟩ = some (.int .i64 3) → W.cell? ⟨vb, 2, none⟩ = some (.int .i64 1) → W.cell? ⟨vb, 3, none⟩ = some (.int .i64 0) → Calls Try.prog 20 #[.slice ra 4 rc, .slice (some ⟨vb, 0, none⟩) 4 4] W fun e w' => e = .returned (.bool true) ∧ Below W.heap.size W w') := fun ra rc vb W h1 c0 c1 c2 c3 => by
    have h := equal_any ra (some ⟨vb, 0, none⟩) rc 4 [2, 3, 1, 0] [2, 3, 1, 0] W (by decide) h1 (fun i hi => by
      have hi' : i < 4 := by simpa using hi
      match i, hi' with
      | 0, _ => exact ⟨vb, 0, rfl, by simpa using c0⟩
      | 1, _ => exact ⟨vb, 0, rfl, by simpa using c1⟩
      | 2, _ => exact ⟨vb, 0, rfl, by simpa using c2⟩
      | 3, _ => exact ⟨vb, 0, rfl, by simpa using c3⟩)
    rw [decide_eq_true rfl] at h
    exact h
  go_enter Try.func30, Try.ntmps30
  go_wp2_with fail
  refine (FA.out _).mono ?_
  rintro e w1 ⟨g, rfl, hb1, hS1⟩
  have HS1 : Hid (NdsAt w1 (some ⟨g, 0, none⟩) S5) := hS1
  have HB1 : Hid (Below w.heap.size w w1) := hb1
  clear hS1 hb1
  go_wp2_with fail
  refine Calls.mono (DA.out g _ (HS1.out.below (two_below _ _ _))) ?_
  rintro e w2 ⟨g2, rfl, hb2, hg2, hO2⟩
  simp only [World.size_alloc] at hb2 hg2
  have hs2 := hb2.size
  simp only [World.size_alloc] at hs2
  have HL2 : Hid (VL ((w2.setCell ⟨w1.heap.size, 0, none⟩ (.slice (some ⟨g2, 0, none⟩) 6 6)).alloc (.cells #[.int .i64 3, .int .i64 1] 26)) w1.heap.size (w1.heap.size + 1) w2.heap.size g2) := by
    have c0 : w2.cell? ⟨w1.heap.size, 0, none⟩ = some (.slice (some ⟨g, 0, none⟩) 6 6) := (hb2.cell (by simp; omega)).trans (by go_simp)
    have c1 : ∀ o, w2.frozen? ⟨w1.heap.size, o, none⟩ = false := fun o => (hb2.frozen (by simp; omega)).trans (by go_simp)
    have d0 : w2.cell? ⟨w1.heap.size + 1, 0, none⟩ = some (.int .i64 0) := (hb2.cell (by simp)).trans (by go_simp)
    have d1 : w2.cell? ⟨w1.heap.size + 1, 1, none⟩ = some (.int .i64 1) := (hb2.cell (by simp)).trans (by go_simp)
    have d2 : w2.cell? ⟨w1.heap.size + 1, 2, none⟩ = some (.int .i64 1) := (hb2.cell (by simp)).trans (by go_simp)
    have d3 : w2.cell? ⟨w1.heap.size + 1, 3, none⟩ = some (.int .i64 1) := (hb2.cell (by simp)).trans (by go_simp)
    have d4 : w2.cell? ⟨w1.heap.size + 1, 4, none⟩ = some (.int .i64 2) := (hb2.cell (by simp)).trans (by go_simp)
    have d5 : w2.cell? ⟨w1.heap.size + 1, 5, none⟩ = some (.int .i64 1) := (hb2.cell (by simp)).trans (by go_simp)
    have n0 : w1.heap.size < w2.heap.size := by omega
    have n1 : w1.heap.size + 1 < w2.heap.size := by omega
    refine ⟨⟨?_, fun o => ?_⟩, ⟨?_, ?_, ?_, ?_, ?_, ?_⟩, ?_, ?_⟩
    all_goals go_simp
  have c0 : w2.cell? ⟨w1.heap.size, 0, none⟩ = some (.slice (some ⟨g, 0, none⟩) 6 6) := (hb2.cell (by simp; omega)).trans (by go_simp)
  have c1 : ∀ o, w2.frozen? ⟨w1.heap.size, o, none⟩ = false := fun o => (hb2.frozen (by simp; omega)).trans (by go_simp)
  have d4 : w2.cell? ⟨w1.heap.size + 1, 4, none⟩ = some (.int .i64 2) := (hb2.cell (by simp)).trans (by go_simp)
  have d5 : w2.cell? ⟨w1.heap.size + 1, 5, none⟩ = some (.int .i64 1) := (hb2.cell (by simp)).trans (by go_simp)
  have n0 : w1.heap.size < w2.heap.size := by omega
  have n1 : w1.heap.size + 1 < w2.heap.size := by omega
  have HB2 : Hid (Below w.heap.size w w2) := HB1.out.trans (((two_below _ _ _).trans (hb2.mono (by omega))).mono HB1.out.size)
  have HN2 : Hid (NdsAt ((w2.setCell ⟨w1.heap.size, 0, none⟩ (.slice (some ⟨g2, 0, none⟩) 6 6)).alloc (.cells #[.int .i64 3, .int .i64 1] 26)) (some ⟨g2, 0, none⟩) S6) :=
    (hO2.up (w3 := w2.setCell ⟨w1.heap.size, 0, none⟩ (.slice (some ⟨g2, 0, none⟩) 6 6)) (fun b hb _ => Below.heap_setCell _ _ _ _ (by show b ≠ w1.heap.size; omega))).nds.below ((Below.refl _ _).alloc (Nat.le_refl _) _)
  clear hb2 hO2
  go_wp2_with fail
  refine Calls.mono (DI.out g2 _ HN2.out) ?_
  rintro e w3 ⟨g3, rfl, hb3, hg3, hup3⟩
  have HV3 : Hid (VL (w3.setCell ⟨w1.heap.size, 0, none⟩ (.slice (some ⟨g3, 0, none⟩) 6 6)) w1.heap.size (w1.heap.size + 1) w2.heap.size g3) := (VL.below HL2.out hb3).set (by omega) (by omega)
  have HV0 : Hid (VL w3 w1.heap.size (w1.heap.size + 1) w2.heap.size g2) := VL.below HL2.out hb3
  simp only [World.size_alloc, World.size_setCell] at hb3 hg3
  have hs3 := hb3.size
  simp only [World.size_alloc, World.size_setCell] at hs3
  have HN3 : Hid (NdsAt (w3.setCell ⟨w1.heap.size, 0, none⟩ (.slice (some ⟨g3, 0, none⟩) 6 6)) (some ⟨g3, 0, none⟩) S7) := hup3 _ (fun b hb => Below.heap_setCell _ _ _ _ (by show b ≠ w1.heap.size; omega))
  have HB3 : Hid (Below w.heap.size w (w3.setCell ⟨w1.heap.size, 0, none⟩ (.slice (some ⟨g3, 0, none⟩) 6 6))) := (Below.trans ((HB2.out.setCell (by simp; exact HB1.out.size) _).alloc (by simp; exact HB2.out.size) _) (hb3.mono (by have := HB2.out.size; omega))).setCell (by simp; exact HB1.out.size) _
  clear hb3 hup3 c0 c1 d4 d5 HL2 HN2
  obtain ⟨⟨a0, a1⟩, ⟨b0, b1, b2, b3, b4, b5⟩, r0, r1⟩ := HV0.out
  go_wp2_with fail
  refine Calls.mono (DS1.out g3 _ HN3.out) ?_
  rintro e w4 ⟨rfl, hb4⟩
  have HV4 : Hid (VL w4 w1.heap.size (w1.heap.size + 1) w2.heap.size g3) := VL.below HV3.out hb4
  have HN4 : Hid (NdsAt w4 (some ⟨g3, 0, none⟩) S7) := HN3.out.below hb4
  have HB4 : Hid (Below w.heap.size w w4) := HB3.out.trans (hb4.mono HB3.out.size)
  clear hb4 a0 a1 b0 b1 b2 b3 b4 b5 r0 r1 HV3 HV0 HN3
  obtain ⟨⟨a0, a1⟩, ⟨b0, b1, b2, b3, b4, b5⟩, r0, r1⟩ := HV4.out
  go_wp2_with fail
  refine Calls.mono (DS2.out g3 _ HN4.out) ?_
  rintro e w5 ⟨rfl, hb5⟩
  have HV5 : Hid (VL w5 w1.heap.size (w1.heap.size + 1) w2.heap.size g3) := VL.below HV4.out hb5
  have HN5 : Hid (NdsAt w5 (some ⟨g3, 0, none⟩) S7) := HN4.out.below hb5
  have HB5 : Hid (Below w.heap.size w w5) := HB4.out.trans (hb5.mono HB4.out.size)
  clear hb5 a0 a1 b0 b1 b2 b3 b4 b5 r0 r1 HV4 HN4
  obtain ⟨⟨a0, a1⟩, ⟨b0, b1, b2, b3, b4, b5⟩, r0, r1⟩ := HV5.out
  go_wp2_with fail
  refine Calls.mono (DP.out g3 _ HN5.out) ?_
  rintro e w6 ⟨ra, rc, rfl, hb6, hI6⟩
  have HV6 : Hid (VL w6 w1.heap.size (w1.heap.size + 1) w2.heap.size g3) := VL.below HV5.out hb6
  have HN6 : Hid (NdsAt w6 (some ⟨g3, 0, none⟩) S7) := HN5.out.below hb6
  have HI6 : Hid (IntsAt w6 ra [2, 3, 1, 0]) := hI6
  have HB6 : Hid (Below w.heap.size w w6) := HB5.out.trans (hb6.mono HB5.out.size)
  clear hb6 hI6 a0 a1 b0 b1 b2 b3 b4 b5 r0 r1 HV5 HN5
  obtain ⟨⟨a0, a1⟩, ⟨b0, b1, b2, b3, b4, b5⟩, r0, r1⟩ := HV6.out
  have X6 : Hid (∀ o1, Below w6.heap.size w6 (w6.alloc o1)) := fun o1 => (Below.refl _ _).alloc (Nat.le_refl _) o1
  go_wp2_with (first
    | (go_at_call 20; refine (EQ.out ra rc _ _ (HI6.out.below (X6.out _)) (by go_simp) (by go_simp) (by go_simp) (by go_simp)).mono ?_; rintro e w7 ⟨rfl, hb7⟩; have HV7 : Hid (VL w7 w1.heap.size (w1.heap.size + 1) w2.heap.size g3) := VL.below (VL.below HV6.out (X6.out _)) hb7; have HN7 : Hid (NdsAt w7 (some ⟨g3, 0, none⟩) S7) := (HN6.out.below (X6.out _)).below hb7; have HB7 : Hid (Below w.heap.size w w7) := (HB6.out.trans ((X6.out _).mono HB6.out.size)).trans (hb7.mono (by simp; have := HB6.out.size; omega)); have a7 := HV7.out.1.1; clear hb7)
    | (go_at_call 34; refine (DT.out g3 _ HN7.out).mono ?_; rintro e w8 ⟨rfl, hb8⟩; have HB8 : Hid (Below w.heap.size w w8) := HB7.out.trans (hb8.mono HB7.out.size); clear hb8))
  go_ret
  exact ⟨rfl, HB8.out⟩
end Go.Proofs.Ytjlapfgghljidab

namespace Go.Proofs.Ytjlapfgghljidab
open Go.RowKit

theorem find_used {S : List Nd} {p u : Int} (h : findE S p u = 0) : WF S ∧ ∃ k : Nat, p = k ∧ k < S.length ∧ (nd S k).u = true ∧ (nd S k).n = u := by
  obtain ⟨hc, hh⟩ := find_parts h
  refine ⟨(wf_iff S).1 hc, ?_⟩
  unfold holdsE at hh
  cases hq : isPl S.length p with
  | false => rw [hq, if_neg (by simp)] at hh; omega
  | true =>
    have hq' : 0 ≤ p ∧ p ≤ (S.length : Int) - 1 := of_decide_eq_true hq
    obtain ⟨k, rfl⟩ : ∃ k : Nat, p = k := ⟨p.toNat, by omega⟩
    rw [hq, if_pos rfl, Int.toNat_natCast] at hh
    unfold holdX at hh
    refine ⟨k, rfl, by omega, ?_⟩
    split at hh
    · split at hh
      · split at hh
        · exact ⟨by assumption, by assumption⟩
        · omega
      · omega
    · omega

theorem find_here {S : List Nd} (wf : WF S) {k : Nat} (hk : k < S.length) (hu : (nd S k).u = true) : findE S k (nd S k).n = 0 := find_zero wf (holds_used hk hu rfl wf)

theorem seen_of_roots {S : List Nd} {p q : Nat} (h : rootsF S p q = []) : seenF S p q = true := by
  unfold seenF
  rw [h]
  rfl

end Go.Proofs.Ytjlapfgghljidab
