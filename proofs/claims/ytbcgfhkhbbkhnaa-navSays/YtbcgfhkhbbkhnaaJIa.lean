/-
  Frames that go elsewhere, without the program.
-/
import Derived.Test.YtbcgfhkhbbkhnaaJFa
namespace Go.Proofs.Ytbcgfhkhbbkhnaa
set_option linter.unusedVariables false

def goE (L : List Fr) (k o : Int) : Int := if heldE L k ≠ 0 then heldE L k else if ¬ (0 ≤ o ∧ o ≤ 9) then 2 else if 1000 ≤ (fr L k.toNat).t then 1 else 0
/-- Frame i, once k went to o. -/
def goX (L : List Fr) (k o : Int) (i : Nat) : Fr := if (i : Int) = k then { fr L i with o := o, t := (fr L i).t + 1 } else { fr L i with g := (fr L i).g || inF L i k }
def goF (L : List Fr) (k o : Int) : List Fr := (List.range L.length).map (goX L k o)
def resG (L : List Fr) (k o : Int) : List Fr := if goE L k o = 0 then goF L k o else []
theorem go_len (L : List Fr) (k o : Int) : (goF L k o).length = L.length := by unfold goF; simp
theorem go_at {L : List Fr} {k o : Int} {i : Nat} (h : i < L.length) : fr (goF L k o) i = goX L k o i := by
  rw [fr_elem (by rw [go_len]; exact h)]
  unfold goF
  simp
theorem resG_len (L : List Fr) (k o : Int) (h : L.length ≤ 9223372036854775807) : (resG L k o).length ≤ 9223372036854775807 := by
  unfold resG
  split
  · rw [go_len]; exact h
  · simp
theorem go_zero {L : List Fr} {k o : Int} (h : goE L k o = 0) : heldE L k = 0 ∧ (0 ≤ o ∧ o ≤ 9) ∧ (fr L k.toNat).t < 1000 := by
  unfold goE at h
  by_cases h1 : heldE L k = 0
  · rw [if_neg (not_not_intro h1)] at h
    by_cases h2 : 0 ≤ o ∧ o ≤ 9
    · rw [if_neg (not_not_intro h2)] at h
      by_cases h3 : 1000 ≤ (fr L k.toNat).t
      · rw [if_pos h3] at h; cases h
      · exact ⟨h1, h2, by omega⟩
    · rw [if_pos h2] at h; cases h
  · rw [if_pos h1] at h
    exact absurd h h1
def stillF (L : List Fr) (k t : Int) : Bool := decide (fholdsE L k = 0) && decide ((fr L k.toNat).t = t)

/-- Who is in another one stands behind it. -/
theorem inF_le_n {L : List Fr} (R : RightF L) {top : Int} : ∀ (n : Nat) (k : Int), k < n → inF L k top = true → top ≤ k
  | 0, k, hk, h => by
    unfold inF at h
    rw [with_none (by omega)] at h
    cases h
  | n + 1, k, hk, h => by
    by_cases hr : 0 ≤ k ∧ k < L.length
    · obtain ⟨i, rfl⟩ := Int.eq_ofNat_of_zero_le hr.1
      by_cases e2 : (i : Int) = top
      · omega
      · rw [in_up R (by omega) e2] at h
        have hl := R.low (i := i) (by omega)
        have := inF_le_n R n _ (by omega) h
        omega
    · unfold inF at h
      rw [with_none hr] at h
      cases h
theorem inF_le {L : List Fr} (R : RightF L) {k top : Int} (h : inF L k top = true) : top ≤ k := inF_le_n R (k.toNat + 1) k (by omega) h

/-- The one that goes. -/
theorem go_self {L : List Fr} {k : Nat} {o : Int} (h : k < L.length) : fr (goF L k o) k = { fr L k with o := o, t := (fr L k).t + 1 } := by
  rw [go_at h]
  unfold goX
  rw [if_pos rfl]
theorem go_other {L : List Fr} {k : Nat} {o : Int} {i : Nat} (h : i < L.length) (hne : i ≠ k) : fr (goF L k o) i = { fr L i with g := (fr L i).g || inF L i k } := by
  rw [go_at h]
  unfold goX
  rw [if_neg (by omega)]
theorem go_p {L : List Fr} {k o : Int} {i : Nat} (h : i < L.length) : (fr (goF L k o) i).p = (fr L i).p := by
  rw [go_at h]
  unfold goX
  split <;> rfl
theorem go_m {L : List Fr} {k o : Int} {i : Nat} (h : i < L.length) : (fr (goF L k o) i).m = (fr L i).m := by
  rw [go_at h]
  unfold goX
  split <;> rfl
theorem go_right {L : List Fr} {k o : Int} (h : goE L k o = 0) : RightF (goF L k o) := by
  obtain ⟨h1, ho, ht⟩ := go_zero h
  obtain ⟨R, q, rfl, hq, hg⟩ := held_zero h1
  rw [Int.toNat_natCast] at ht
  refine ⟨by rw [go_len]; exact R.few, fun i hi => ?_⟩
  rw [go_len] at hi
  obtain ⟨a1, a2, a3⟩ := frE_zero.1 (R.ok i hi)
  rw [frE_zero]
  refine ⟨?_, ?_, fun h0 => ?_⟩
  · unfold whoOk at a1 ⊢
    rw [go_p hi]
    exact a1
  · unfold rangeOk at a2 ⊢
    rw [go_m hi]
    by_cases e : i = q
    · subst e
      rw [go_self hi]
      dsimp only
      exact ⟨ho, a2.2.1, by omega⟩
    · rw [go_other hi e]
      exact a2
  · obtain ⟨p, hp, hlt, hf⟩ := R.up hi h0
    rw [go_p hi, hp, Int.toNat_natCast]
    unfold fitOk
    rw [go_m hi, go_m (by omega)]
    refine ⟨hf.1, ?_⟩
    by_cases e : i = q
    · subst e
      rw [go_self hi, go_other (by omega) (by omega)]
      dsimp only
      right
      have hgp : (fr L p).g = false := by
        rcases hf.2 with hh | hh
        · rw [hg] at hh; cases hh
        · exact hh
      have hin : inF L (p : Int) i = false := by
        cases hc : inF L (p : Int) i with
        | false => rfl
        | true => exact absurd (inF_le R (k := (p : Int)) hc) (by omega)
      rw [hgp, hin]
      rfl
    · rw [go_other hi e]
      dsimp only
      by_cases e2 : p = q
      · subst e2
        left
        rw [in_up R hi (by omega), hp, in_self (by omega), Bool.or_true]
      · rw [go_other (by omega) e2, in_up R hi (by omega), hp]
        dsimp only
        rcases hf.2 with hh | hh
        · left; rw [hh, Bool.true_or]
        · rw [hh]
          cases inF L (p : Int) q with
          | true => left; rw [Bool.or_true]
          | false => right; rfl
theorem go_held {L : List Fr} {k o : Int} (h : goE L k o = 0) : fholdsE (goF L k o) k = 0 := by
  obtain ⟨h1, ho, ht⟩ := go_zero h
  obtain ⟨R, q, rfl, hq, hg⟩ := held_zero h1
  unfold fholdsE
  rw [go_len, if_neg (by omega), Int.toNat_natCast, go_self hq, if_neg (by rw [hg]; decide)]
end Go.Proofs.Ytbcgfhkhbbkhnaa
