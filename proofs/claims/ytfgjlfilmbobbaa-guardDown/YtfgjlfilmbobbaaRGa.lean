/-
  What a frame may ask of another one, without the program.
-/
import Derived.Test.YtfgjlfilmbobbaaRFj
namespace Go.Proofs.Ytfgjlfilmbobbaa
set_option linter.unusedVariables false

/-- Is all so that is asked for? -/
def askF (L : List Fr) (f t x : Int) : Bool :=
  if x = 1 then decide ((fr L f.toNat).o = (fr L t.toNat).o)
  else if x = 2 then true
  else if x = 3 then decide (bits .andNot .i64 2 (fr L f.toNat).m = 0)
  else (!decide (t = f)) && inF L t f
def mayE (L : List Fr) (f t x : Int) : Int :=
  if heldsE L [f, t] ≠ 0 then heldsE L [f, t] else if ¬ (1 ≤ x ∧ x ≤ 5) then 3 else if askF L f t x = true then 0 else 7

theorem helds_two (L : List Fr) (f t : Int) : heldsE L [f, t] = if fcheckE L ≠ 0 then fcheckE L else if fholdsE L f ≠ 0 then fholdsE L f else fholdsE L t := by
  unfold heldsE
  simp only [List.foldl]
  by_cases h1 : fcheckE L = 0
  · rw [if_pos h1, if_neg (not_not_intro h1)]
    by_cases h2 : fholdsE L f = 0
    · rw [if_pos h2, if_neg (not_not_intro h2)]
    · rw [if_neg h2, if_pos h2]
  · rw [if_neg h1, if_neg h1, if_pos h1]
theorem helds_two_zero {L : List Fr} {f t : Int} (h : heldsE L [f, t] = 0) : fcheckE L = 0 ∧ fholdsE L f = 0 ∧ fholdsE L t = 0 := by
  rw [helds_two] at h
  by_cases h1 : fcheckE L = 0
  · rw [if_neg (not_not_intro h1)] at h
    by_cases h2 : fholdsE L f = 0
    · rw [if_neg (not_not_intro h2)] at h
      exact ⟨h1, h2, h⟩
    · rw [if_pos h2] at h
      exact absurd h h2
  · rw [if_pos h1] at h
    exact absurd h h1
theorem helds_two_of {L : List Fr} {f t : Int} (h1 : fcheckE L = 0) (h2 : fholdsE L f = 0) (h3 : fholdsE L t = 0) : heldsE L [f, t] = 0 := by
  rw [helds_two, if_neg (not_not_intro h1), if_neg (not_not_intro h2), h3]

/-- The rules. -/
def ruleOf (k : Int) : Option (Bool × Int × Bool) :=
  if k = 1 then some (true, 0, false) else if k = 2 then some (false, 0, false) else if k = 3 then some (false, 2, false) else if k = 4 ∨ k = 5 then some (false, 0, true) else none
def letsF (L : List Fr) (f t : Int) (al : Bool) (nd : Int) (be : Bool) : Bool :=
  (!al || decide ((fr L f.toNat).o = (fr L t.toNat).o)) && (decide (bits .andNot .i64 nd (fr L f.toNat).m = 0) && (!be || ((!decide (t = f)) && inF L t f)))

theorem an_none {a : Int} (h0 : 0 ≤ a) (h7 : a ≤ 7) : bits .andNot .i64 0 a = 0 := all8 (P := fun a => bits .andNot .i64 0 a = 0) (by decide +kernel) h0 h7
theorem an_post {a : Int} (h0 : 0 ≤ a) (h7 : a ≤ 7) : bits .andNot .i64 2 a = 0 ↔ ¬ ((a.tdiv 2).tmod 2 = 0) := all8 (P := fun a => bits .andNot .i64 2 a = 0 ↔ ¬ ((a.tdiv 2).tmod 2 = 0)) (by decide +kernel) h0 h7

theorem rule_none {x : Int} : ruleOf x = none ↔ ¬ (1 ≤ x ∧ x ≤ 5) := by
  unfold ruleOf
  by_cases h1 : x = 1
  · rw [if_pos h1]; simp; omega
  · rw [if_neg h1]
    by_cases h2 : x = 2
    · rw [if_pos h2]; simp; omega
    · rw [if_neg h2]
      by_cases h3 : x = 3
      · rw [if_pos h3]; simp; omega
      · rw [if_neg h3]
        by_cases h4 : x = 4 ∨ x = 5
        · rw [if_pos h4]; simp; omega
        · rw [if_neg h4]; simp; omega

theorem lets_ask {L : List Fr} (R : RightF L) {f t : Nat} (hf : f < L.length) {x : Int} {al be : Bool} {nd : Int} (h : ruleOf x = some (al, nd, be)) : letsF L f t al nd be = askF L f t x := by
  have hm := R.may hf
  unfold ruleOf at h
  unfold letsF askF
  rw [Int.toNat_natCast]
  by_cases h1 : x = 1
  · rw [if_pos h1] at h
    rw [if_pos h1]
    cases h
    simp [an_none hm.1 hm.2]
  · rw [if_neg h1] at h
    rw [if_neg h1]
    by_cases h2 : x = 2
    · rw [if_pos h2] at h
      rw [if_pos h2]
      cases h
      simp [an_none hm.1 hm.2]
    · rw [if_neg h2] at h
      rw [if_neg h2]
      by_cases h3 : x = 3
      · rw [if_pos h3] at h
        rw [if_pos h3]
        cases h
        simp
      · rw [if_neg h3] at h
        rw [if_neg h3]
        by_cases h4 : x = 4 ∨ x = 5
        · rw [if_pos h4] at h
          cases h
          simp [an_none hm.1 hm.2]
        · rw [if_neg h4] at h
          cases h

/-- What May answers, step by step. -/
theorem may_one {L : List Fr} {f t x : Int} (h : fcheckE L ≠ 0) : mayE L f t x = fcheckE L := by
  unfold mayE
  rw [helds_two, if_pos h, if_pos h]
theorem may_two {L : List Fr} {f t x : Int} (h : fcheckE L = 0) (h2 : fholdsE L f ≠ 0) : mayE L f t x = fholdsE L f := by
  unfold mayE
  rw [helds_two, if_neg (not_not_intro h), if_pos h2, if_pos h2]
theorem may_three {L : List Fr} {f t x : Int} (h : fcheckE L = 0) (h2 : fholdsE L f = 0) (h3 : fholdsE L t ≠ 0) : mayE L f t x = fholdsE L t := by
  unfold mayE
  rw [helds_two, if_neg (not_not_intro h), if_neg (not_not_intro h2), if_pos h3]
theorem may_four {L : List Fr} {f t x : Int} (h : fcheckE L = 0) (h2 : fholdsE L f = 0) (h3 : fholdsE L t = 0) : mayE L f t x = if ¬ (1 ≤ x ∧ x ≤ 5) then 3 else if askF L f t x = true then 0 else 7 := by
  unfold mayE
  rw [helds_two_of h h2 h3, if_neg (by decide)]
theorem may_zero {L : List Fr} {f t x : Int} (h : mayE L f t x = 0) : fcheckE L = 0 ∧ fholdsE L f = 0 ∧ fholdsE L t = 0 ∧ (1 ≤ x ∧ x ≤ 5) ∧ askF L f t x = true := by
  by_cases h1 : heldsE L [f, t] = 0
  · obtain ⟨a, b, c⟩ := helds_two_zero h1
    rw [may_four a b c] at h
    by_cases h2 : 1 ≤ x ∧ x ≤ 5
    · rw [if_neg (not_not_intro h2)] at h
      by_cases h3 : askF L f t x = true
      · exact ⟨a, b, c, h2, h3⟩
      · rw [if_neg h3] at h
        cases h
    · rw [if_pos h2] at h
      cases h
  · unfold mayE at h
    rw [if_pos h1] at h
    exact absurd h h1

/-- Who is in one that is in a third one is in that. -/
theorem with_trans {L : List Fr} (R : RightF L) {b top : Int} (hb : inF L b top = true) : ∀ (n : Nat) (k : Int), k < n → inF L k b = true → inF L k top = true
  | 0, k, hk, h => by
    unfold inF at h
    rw [with_none (by omega)] at h
    cases h
  | n + 1, k, hk, h => by
    by_cases hr : 0 ≤ k ∧ k < L.length
    · obtain ⟨i, rfl⟩ := Int.eq_ofNat_of_zero_le hr.1
      by_cases e : (i : Int) = b
      · rw [e]; exact hb
      · by_cases e2 : (i : Int) = top
        · rw [← e2]
          exact in_self (by omega)
        · rw [in_up R (by omega) e] at h
          rw [in_up R (by omega) e2]
          have hl := R.low (i := i) (by omega)
          exact with_trans R hb n _ (by omega) h
    · unfold inF at h
      rw [with_none hr] at h
      cases h
theorem in_trans {L : List Fr} (R : RightF L) {k b top : Int} (h1 : inF L k b = true) (h2 : inF L b top = true) : inF L k top = true := with_trans R h2 (k.toNat + 1) k (by omega) h1

/-- Who is in another one stands behind it. -/
theorem with_le {L : List Fr} (R : RightF L) {top : Int} : ∀ (n : Nat) (k : Int), k < n → inF L k top = true → top ≤ k
  | 0, k, hk, h => by
    unfold inF at h
    rw [with_none (by omega)] at h
    cases h
  | n + 1, k, hk, h => by
    by_cases hr : 0 ≤ k ∧ k < L.length
    · obtain ⟨i, rfl⟩ := Int.eq_ofNat_of_zero_le hr.1
      by_cases e2 : (i : Int) = top
      · omega
      · rw [in_up R (by omega) e2] at h
        have hl := R.low (i := i) (by omega)
        have := with_le R n _ (by omega) h
        omega
    · unfold inF at h
      rw [with_none hr] at h
      cases h
theorem in_le {L : List Fr} (R : RightF L) {k top : Int} (h : inF L k top = true) : top ≤ k := with_le R (k.toNat + 1) k (by omega) h
end Go.Proofs.Ytfgjlfilmbobbaa
