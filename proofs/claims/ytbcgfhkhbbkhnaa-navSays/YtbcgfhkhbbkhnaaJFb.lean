/-
  Frames in memory; contracts of what Check asks of a frame, of Check, Holds, Within.
-/
import Derived.Test.YtbcgfhkhbbkhnaaJBa
import Derived.Test.YtbcgfhkhbbkhnaaJFa
import Derived.Laws.StructEq
import Derived.Deep.RegionHeld3
import Derived.BigQuiet
namespace Go.Proofs.Ytbcgfhkhbbkhnaa
open Go.RowKit
set_option linter.unusedVariables false

def FrsAt (w : World) (a : Option Addr) (L : List Fr) : Prop :=
  ∀ i, i < L.length → ∃ b o, a = some ⟨b, o, none⟩ ∧ w.cell? ⟨b, o + i * 5, none⟩ = some (.int .i64 (fr L i).p) ∧ w.cell? ⟨b, o + i * 5 + 1, none⟩ = some (.int .i64 (fr L i).o) ∧ w.cell? ⟨b, o + i * 5 + 2, none⟩ = some (.int .i64 (fr L i).m) ∧ w.cell? ⟨b, o + i * 5 + 3, none⟩ = some (.int .i64 (fr L i).t) ∧ w.cell? ⟨b, o + i * 5 + 4, none⟩ = some (.bool (fr L i).g)

theorem FrsAt.below {w w' : World} {a : Option Addr} {L : List Fr} (h : FrsAt w a L) (hb : Below w.heap.size w w') : FrsAt w' a L := fun i hi => by
  obtain ⟨b, o, e, h1, h2, h3, h4, h5⟩ := h i hi
  have hlt : b < w.heap.size := World.block_lt_of_cell? _ _ h1
  exact ⟨b, o, e, (hb.cell (by exact hlt)).trans h1, (hb.cell (by exact hlt)).trans h2, (hb.cell (by exact hlt)).trans h3, (hb.cell (by exact hlt)).trans h4, (hb.cell (by exact hlt)).trans h5⟩

theorem keep5 {W W' : World} {b i0 i1 i2 i3 i4 : Nat} {v0 v1 v2 v3 v4 : Value} (hb : Below W.heap.size W W') (c0 : W.cell? ⟨b, i0, none⟩ = some v0) (c1 : W.cell? ⟨b, i1, none⟩ = some v1) (c2 : W.cell? ⟨b, i2, none⟩ = some v2) (c3 : W.cell? ⟨b, i3, none⟩ = some v3) (c4 : W.cell? ⟨b, i4, none⟩ = some v4) :
    W'.cell? ⟨b, i0, none⟩ = some v0 ∧ W'.cell? ⟨b, i1, none⟩ = some v1 ∧ W'.cell? ⟨b, i2, none⟩ = some v2 ∧ W'.cell? ⟨b, i3, none⟩ = some v3 ∧ W'.cell? ⟨b, i4, none⟩ = some v4 := ⟨keepC c0 hb, keepC c1 hb, keepC c2 hb, keepC c3 hb, keepC c4 hb⟩

theorem belowN {B : Nat} {w w' : World} (h : Below B w w') (n : Nat) : Below B w (w'.drewN n) := ⟨h.os, h.tape, h.output, h.size, h.block⟩

/-- A frame, as a value. -/
abbrev fv (x : Fr) : Value := .agg #[.int .i64 x.p, .int .i64 x.o, .int .i64 x.m, .int .i64 x.t, .bool x.g]

set_option maxHeartbeats 400000 in
theorem gwithin_any (x a b : Int) (w : World) :
    Calls Try.prog 21 #[.int .i64 x, .int .i64 a, .int .i64 b] w fun e w' => e = .returned (.bool (decide (a ≤ x ∧ x ≤ b))) ∧ w' = w := by
  by_cases h1 : a ≤ x
  · by_cases h2 : x ≤ b
    · have h : decide (a ≤ x ∧ x ≤ b) = true := by simp [h1, h2]
      rw [h]
      clear h
      go_enter Try.func21, Try.ntmps21
      go_wp2
      go_ret
      exact ⟨rfl, rfl⟩
    · have h : decide (a ≤ x ∧ x ≤ b) = false := by simp [h2]
      rw [h]
      clear h
      go_enter Try.func21, Try.ntmps21
      go_wp2
      go_ret
      exact ⟨rfl, rfl⟩
  · have h : decide (a ≤ x ∧ x ≤ b) = false := by simp [h1]
    rw [h]
    clear h
    go_enter Try.func21, Try.ntmps21
    go_wp2
    go_ret
    exact ⟨rfl, rfl⟩

theorem who_zero (x : Fr) : decide (whoOk x 0) = decide (x.p = -1) := decide_eq_decide.2 (by unfold whoOk; simp)
theorem who_pos (x : Fr) {k : Nat} (h : k ≠ 0) : decide (whoOk x k) = decide (0 ≤ x.p ∧ x.p ≤ (k : Int) - 1) := decide_eq_decide.2 (by unfold whoOk; rw [if_neg h])

set_option maxHeartbeats 400000 in
theorem parentFits_any (x : Fr) (k : Nat) (hk : k ≤ 1000) (w : World) :
    Calls Try.prog 26 #[.int .i64 x.p, .int .i64 k] w fun e w' => e = .returned (.bool (decide (whoOk x k))) ∧ w' = w := by
  by_cases h0 : k = 0
  · subst h0
    rw [who_zero]
    obtain ⟨p, hp⟩ : ∃ p, x.p = p := ⟨_, rfl⟩
    rw [hp]
    have hd : (p == -1) = decide (p = -1) := by by_cases e : p = -1 <;> simp [e]
    clear hp
    go_enter Try.func26, Try.ntmps26
    go_wp2
    go_ret
    first | exact ⟨rfl, rfl⟩ | exact ⟨by rw [hd], rfl⟩ | exact ⟨by simp, rfl⟩
  · rw [who_pos x h0]
    obtain ⟨p, hp⟩ : ∃ p, x.p = p := ⟨_, rfl⟩
    rw [hp]
    have h1 : ¬ (k : Int) = 0 := by omega
    have h2 : decide ((k : Int) = 0) = false := decide_eq_false h1
    have HW : Hid _ := gwithin_any p 0 ((k : Int) - 1)
    clear hp
    generalize decide (0 ≤ p ∧ p ≤ (k : Int) - 1) = r at *
    go_enter Try.func26, Try.ntmps26
    go_wp2_with fail
    refine Calls.mono (HW.out _) ?_
    rintro e w1 ⟨rfl, rfl⟩
    go_wp2
    go_ret
    exact ⟨rfl, rfl⟩

set_option maxHeartbeats 400000 in
theorem originFits_any (x : Int) (w : World) :
    Calls Try.prog 24 #[.int .i64 x] w fun e w' => e = .returned (.bool (decide (0 ≤ x ∧ x ≤ 9))) ∧ w' = w := by
  have HW : Hid _ := gwithin_any x 0 9
  generalize decide (0 ≤ x ∧ x ≤ 9) = r at *
  go_enter Try.func24, Try.ntmps24
  go_wp2_with fail
  refine Calls.mono (HW.out _) ?_
  rintro e w1 ⟨rfl, rfl⟩
  go_wp2
  go_ret
  exact ⟨rfl, rfl⟩
set_option maxHeartbeats 400000 in
theorem mayFits_any (x : Int) (w : World) :
    Calls Try.prog 25 #[.int .i64 x] w fun e w' => e = .returned (.bool (decide (0 ≤ x ∧ x ≤ 7))) ∧ w' = w := by
  have HW : Hid _ := gwithin_any x 0 7
  generalize decide (0 ≤ x ∧ x ≤ 7) = r at *
  go_enter Try.func25, Try.ntmps25
  go_wp2_with fail
  refine Calls.mono (HW.out _) ?_
  rintro e w1 ⟨rfl, rfl⟩
  go_wp2
  go_ret
  exact ⟨rfl, rfl⟩

theorem range_bool (x : Fr) : decide (rangeOk x) = (decide (0 ≤ x.o ∧ x.o ≤ 9) && (decide (0 ≤ x.m ∧ x.m ≤ 7) && decide (0 ≤ x.t ∧ x.t ≤ 1000))) := by
  unfold rangeOk
  by_cases h1 : 0 ≤ x.o ∧ x.o ≤ 9 <;> by_cases h2 : 0 ≤ x.m ∧ x.m ≤ 7 <;> by_cases h3 : 0 ≤ x.t ∧ x.t ≤ 1000 <;> simp [h1, h2, h3]

set_option maxHeartbeats 1000000 in
theorem inRangeF_any (x : Fr) (w : World) :
    Calls Try.prog 27 #[fv x] w fun e w' => e = .returned (.bool (decide (rangeOk x))) ∧ Below w.heap.size w w' := by
  rw [range_bool]
  have D1 : Hid _ := originFits_any x.o
  have D2 : Hid _ := mayFits_any x.m
  have D3 : Hid _ := gwithin_any x.t 0 1000
  have HB : Hid (∀ o1, Below w.heap.size w (w.alloc o1)) := fun o1 => one_belowS w o1
  generalize decide (0 ≤ x.o ∧ x.o ≤ 9) = b1 at *
  generalize decide (0 ≤ x.m ∧ x.m ≤ 7) = b2 at *
  generalize decide (0 ≤ x.t ∧ x.t ≤ 1000) = b3 at *
  obtain ⟨xp, xo, xm, xt, xg⟩ := x
  dsimp only at D1 D2 D3
  go_enter Try.func27, Try.ntmps27
  go_wp2_with fail
  refine Calls.mono (D1.out _) ?_
  rintro e w1 ⟨rfl, rfl⟩
  cases b1
  · go_wp2_with fail
    go_ret
    exact ⟨rfl, HB.out _⟩
  · go_wp2_with fail
    refine Calls.mono (D2.out _) ?_
    rintro e w1 ⟨rfl, rfl⟩
    cases b2
    · go_wp2_with fail
      go_ret
      exact ⟨rfl, HB.out _⟩
    · go_wp2_with fail
      refine Calls.mono (D3.out _) ?_
      rintro e w1 ⟨rfl, rfl⟩
      go_wp2_with fail
      go_ret
      exact ⟨by cases b3 <;> rfl, HB.out _⟩

theorem fit_bool (x y : Fr) : decide (fitOk x y) = (decide (bits .andNot .i64 x.m y.m = 0) && (x.g || !y.g)) := by
  rw [Bool.eq_iff_iff, decide_eq_true_iff]
  unfold fitOk
  simp

set_option maxHeartbeats 1000000 in
theorem fitsInto_any (x y : Fr) (w : World) :
    Calls Try.prog 28 #[fv x, fv y] w fun e w' => e = .returned (.bool (decide (fitOk x y))) ∧ Below w.heap.size w w' := by
  rw [fit_bool]
  have HB : Hid (∀ o1 o2, Below w.heap.size w ((w.alloc o1).alloc o2)) := fun o1 o2 => two_belowS w o1 o2
  obtain ⟨xp, xo, xm, xt, xg⟩ := x
  obtain ⟨yp, yo, ym, yt, yg⟩ := y
  dsimp only
  generalize hz : bits .andNot .i64 xm ym = z
  by_cases h : z = 0
  · have d : decide (z = 0) = true := decide_eq_true h
    have d2 : (z == 0) = true := by simp [h]
    cases xg <;> cases yg
    all_goals
      go_enter Try.func28, Try.ntmps28
      go_wp2_with fail
      go_ret
      exact ⟨by simp [h], HB.out _ _⟩
  · have d : decide (z = 0) = false := decide_eq_false h
    have d2 : (z == 0) = false := by simp [h]
    go_enter Try.func28, Try.ntmps28
    go_wp2_with fail
    go_ret
    exact ⟨by simp [h], HB.out _ _⟩
end Go.Proofs.Ytbcgfhkhbbkhnaa
