/-
  What the rules are made of: isBelow, lets, rules.
-/
import Derived.Test.YtfgjlfilmbobbaaQGa
import Derived.Test.YtfgjlfilmbobbaaQNa
namespace Go.Proofs.Ytfgjlfilmbobbaa
open Go.RowKit Go.ChangeShapes Go.WideShapes
set_option linter.unusedVariables false

set_option maxHeartbeats 400000 in
theorem isBelow_any (a : Option Addr) (c : Nat) (L : List Fr) (k top : Int) (w : World) (hN : L.length ≤ 9223372036854775807) (hL : FrsAt w a L) :
    Calls Try.prog 20 #[.slice a L.length c, .int .i64 k, .int .i64 top] w fun e w' => e = .returned (.bool ((!decide (k = top)) && inF L k top)) ∧ w' = w := by
  have D : Hid _ := fwithin_any a c L k top w hN hL
  clear hL
  generalize inF L k top = r at *
  generalize L.length = n at *
  by_cases h : k = top
  · subst h
    simp only [decide_true, Bool.not_true, Bool.false_and]
    go_enter Try.func20, Try.ntmps20
    go_wp2_with fail
    go_ret
    exact ⟨rfl, rfl⟩
  · have h1 : decide (k = top) = false := decide_eq_false h
    have h2 : (k == top) = false := by simp [h]
    have h3 : (k != top) = true := by simp [h]
    rw [h1]
    simp only [Bool.not_false, Bool.true_and]
    go_enter Try.func20, Try.ntmps20
    go_wp2_with fail
    refine Calls.mono D.out ?_
    rintro e w1 ⟨rfl, hw1⟩
    subst hw1
    go_wp2_with fail
    go_ret
    exact ⟨rfl, rfl⟩

set_option maxRecDepth 100000 in
set_option maxHeartbeats 2000000 in
theorem lets_any (a : Option Addr) (c : Nat) (L : List Fr) (f t : Nat) (al : Bool) (nd : Int) (be : Bool) (w : World) (hN : L.length ≤ 1000) (hL : FrsAt w a L) (hf : f < L.length) (ht : t < L.length) :
    Calls Try.prog 14 #[.agg #[.bool al, .int .i64 nd, .bool be], .slice a L.length c, .int .i64 (f : Int), .int .i64 (t : Int)] w fun e w' => e = .returned (.bool (letsF L f t al nd be)) ∧ Below w.heap.size w w' := by
  have D : Hid (∀ W, FrsAt W a L → _) := fun W hW => isBelow_any a c L t f W (by omega) hW
  have HL : Hid (FrsAt w a L) := hL
  obtain ⟨b, o, ea, f0, f1, f2, f3, f4⟩ := hL f hf
  obtain ⟨b', o', ea', t0, t1, t2, t3, t4⟩ := hL t ht
  rw [ea] at ea'
  cases ea'
  subst ea
  have hlt : b < w.heap.size := World.block_lt_of_cell? _ _ f0
  have hf2 : (f : Int) < (L.length : Int) := by omega
  have ht2 : (t : Int) < (L.length : Int) := by omega
  unfold letsF
  rw [Int.toNat_natCast, Int.toNat_natCast]
  clear hL f0 f3 f4 t0 t2 t3 t4
  generalize ((!decide ((t : Int) = (f : Int))) && inF L t f) = r at *
  generalize fr L f = x at *
  generalize fr L t = y at *
  obtain ⟨xp, xo, xm, xt, xg⟩ := x
  obtain ⟨yp, yo, ym, yt, yg⟩ := y
  dsimp only at f1 f2 t1 ⊢
  generalize L.length = n at *
  cases al
  · simp only [Bool.not_false, Bool.true_or, Bool.true_and]
    by_cases h2 : bits .andNot .i64 nd xm = 0
    · have h2a : decide (bits .andNot .i64 nd xm = 0) = true := decide_eq_true h2
      rw [h2a]
      simp only [Bool.true_and]
      cases be
      · simp only [Bool.not_false, Bool.true_or]
        go_enter Try.func14, Try.ntmps14
        go_wp2_with fail
        go_big_quiet (fail)
        go_wp2_with fail
        go_big_quiet (fail)
        go_wp2_with fail
        go_ret
        exact ⟨rfl, belowN (one_belowS w _) _⟩
      · simp only [Bool.not_true, Bool.false_or]
        go_enter Try.func14, Try.ntmps14
        go_wp2_with fail
        go_big_quiet (fail)
        go_wp2_with fail
        go_big_quiet (fail)
        go_wp2_with fail
        refine Calls.mono (D.out _ (HL.out.below (belowN (one_belowS w _) _))) ?_
        rintro e w1 ⟨rfl, hw1⟩
        subst hw1
        go_wp2_with fail
        go_ret
        exact ⟨rfl, belowN (one_belowS w _) _⟩
    · have h2a : decide (bits .andNot .i64 nd xm = 0) = false := decide_eq_false h2
      have h2b : (bits .andNot .i64 nd xm != 0) = true := by simp [h2]
      rw [h2a]
      simp only [Bool.false_and]
      go_enter Try.func14, Try.ntmps14
      go_wp2_with fail
      go_big_quiet (fail)
      go_wp2_with fail
      go_big_quiet (fail)
      go_wp2_with fail
      go_ret
      exact ⟨rfl, belowN (belowN (one_belowS w _) _) _⟩
  · by_cases h1 : xo = yo
    · have h1a : decide (xo = yo) = true := decide_eq_true h1
      rw [h1a]
      simp only [Bool.not_true, Bool.false_or, Bool.true_and]
      subst h1
      by_cases h2 : bits .andNot .i64 nd xm = 0
      · have h2a : decide (bits .andNot .i64 nd xm = 0) = true := decide_eq_true h2
        rw [h2a]
        simp only [Bool.true_and]
        cases be
        · simp only [Bool.not_false, Bool.true_or]
          go_enter Try.func14, Try.ntmps14
          go_wp2_with fail
          go_big_quiet (fail)
          go_wp2_with fail
          go_big_quiet (fail)
          go_wp2_with fail
          go_ret
          exact ⟨rfl, belowN (one_belowS w _) _⟩
        · simp only [Bool.not_true, Bool.false_or]
          go_enter Try.func14, Try.ntmps14
          go_wp2_with fail
          go_big_quiet (fail)
          go_wp2_with fail
          go_big_quiet (fail)
          go_wp2_with fail
          refine Calls.mono (D.out _ (HL.out.below (belowN (one_belowS w _) _))) ?_
          rintro e w1 ⟨rfl, hw1⟩
          subst hw1
          go_wp2_with fail
          go_ret
          exact ⟨rfl, belowN (one_belowS w _) _⟩
      · have h2a : decide (bits .andNot .i64 nd xm = 0) = false := decide_eq_false h2
        have h2b : (bits .andNot .i64 nd xm != 0) = true := by simp [h2]
        rw [h2a]
        simp only [Bool.false_and]
        go_enter Try.func14, Try.ntmps14
        go_wp2_with fail
        go_big_quiet (fail)
        go_wp2_with fail
        go_big_quiet (fail)
        go_wp2_with fail
        go_ret
        exact ⟨rfl, belowN (belowN (one_belowS w _) _) _⟩
    · have h1a : decide (xo = yo) = false := decide_eq_false h1
      have h1b : (xo != yo) = true := by simp [h1]
      rw [h1a]
      simp only [Bool.not_true, Bool.false_or, Bool.false_and]
      go_enter Try.func14, Try.ntmps14
      go_wp2_with fail
      go_big_quiet (fail)
      go_wp2_with fail
      go_ret
      exact ⟨rfl, belowN (one_belowS w _) _⟩

/-- A rule, as a value. -/
abbrev rv (r : Bool × Int × Bool) : Value := .agg #[.bool r.1, .int .i64 r.2.1, .bool r.2.2]
/-- What the map of the first n rules says. -/
def ruleN (n : Int) : Lit → Option Value
  | .int .i64 k => if k ≤ n then (ruleOf k).map rv else none
  | _ => none
theorem ruleN_int (n k : Int) : ruleN n (.int .i64 k) = if k ≤ n then (ruleOf k).map rv else none := rfl
theorem ruleN_old {n : Int} (j : Lit) (h : j ≠ .int .i64 (n + 1)) : ruleN (n + 1) j = ruleN n j := by
  unfold ruleN
  split
  · rename_i k
    have hne : k ≠ n + 1 := fun e => h (by rw [e])
    by_cases hk : k ≤ n
    · rw [if_pos hk, if_pos (by omega)]
    · rw [if_neg hk, if_neg (by omega)]
  · rfl
theorem ruleN_none (j : Lit) : ruleN 0 j = none := by
  unfold ruleN
  split
  · rename_i k
    by_cases hk : k ≤ 0
    · rw [if_pos hk, rule_none.2 (by omega)]
      rfl
    · rw [if_neg hk]
  · rfl
theorem intKeyG {k : Int} (h : (Lit.int .i64 k).wf = true) : keyOf Try.prog 3 (.int .i64 k) = some (.int .i64 k) := Maps.keyOf_int_mk Try.underlying3 h

set_option maxRecDepth 100000 in
set_option maxHeartbeats 2000000 in
theorem rules_any (w : World) :
    Calls Try.prog 13 #[] w fun e w' => ∃ b, e = .returned (.map (some b)) ∧ RawAt Try.prog 3 w' b 5 (ruleN 5) ∧ Below w.heap.size w w' := by
  have hmm := @run_makeMap Try.prog
  have m0 : RawAt Try.prog 3 (w.alloc (.map #[] 0)) w.heap.size 0 (ruleN 0) := (RawAt.made Try.prog 3 w).congr (fun kl _ => (ruleN_none kl).symm)
  obtain ⟨w1, p1, k1, g1⟩ := m0.put (Maps.int_keyed Try.underlying3) (t := 39) Try.underlying39 (by unfold maxLen; omega) (intKeyG (k := 1) (by decide)) trivial (rv (true, 0, false))
  have m1 := k1 (ruleN 1) rfl (fun j hj => ruleN_old (n := 0) j hj)
  obtain ⟨w2, p2, k2, g2⟩ := m1.put (Maps.int_keyed Try.underlying3) (t := 39) Try.underlying39 (by unfold maxLen; omega) (intKeyG (k := 2) (by decide)) trivial (rv (false, 0, false))
  have m2 := k2 (ruleN 2) rfl (fun j hj => ruleN_old (n := 1) j hj)
  obtain ⟨w3, p3, k3, g3⟩ := m2.put (Maps.int_keyed Try.underlying3) (t := 39) Try.underlying39 (by unfold maxLen; omega) (intKeyG (k := 3) (by decide)) trivial (rv (false, 2, false))
  have m3 := k3 (ruleN 3) rfl (fun j hj => ruleN_old (n := 2) j hj)
  obtain ⟨w4, p4, k4, g4⟩ := m3.put (Maps.int_keyed Try.underlying3) (t := 39) Try.underlying39 (by unfold maxLen; omega) (intKeyG (k := 4) (by decide)) trivial (rv (false, 0, true))
  have m4 := k4 (ruleN 4) rfl (fun j hj => ruleN_old (n := 3) j hj)
  obtain ⟨w5, p5, k5, g5⟩ := m4.put (Maps.int_keyed Try.underlying3) (t := 39) Try.underlying39 (by unfold maxLen; omega) (intKeyG (k := 5) (by decide)) trivial (rv (false, 0, true))
  have m5 := k5 (ruleN 5) rfl (fun j hj => ruleN_old (n := 4) j hj)
  have up : ∀ {x y : World}, x.grownBy y (some w.heap.size) → w.heap.size ≤ x.heap.size → Below w.heap.size x y := fun h _ => ⟨h.os, h.tape, h.output, h.size, fun k hk => h.block k (by omega) (by intro e; have := Option.some.inj e; omega)⟩
  have z0 : Below w.heap.size w (w.alloc (.map #[] 0)) := one_belowS w _
  have z1 := z0.trans (up g1 z0.size)
  have z2 := z1.trans (up g2 z1.size)
  have z3 := z2.trans (up g3 z2.size)
  have z4 := z3.trans (up g4 z3.size)
  have z5 := z4.trans (up g5 z4.size)
  have M : Hid (RawAt Try.prog 3 w5 w.heap.size 5 (ruleN 5)) := m5
  have Z : Hid (Below w.heap.size w w5) := z5
  clear m0 m1 m2 m3 m4 m5 k1 k2 k3 k4 k5 g1 g2 g3 g4 g5 z0 z1 z2 z3 z4 z5 up
  dsimp only [rv] at p1 p2 p3 p4 p5
  go_enter Try.func13, Try.ntmps13
  go_wp2_with fail
  go_ret
  exact ⟨_, rfl, M.out, Z.out⟩
end Go.Proofs.Ytfgjlfilmbobbaa
