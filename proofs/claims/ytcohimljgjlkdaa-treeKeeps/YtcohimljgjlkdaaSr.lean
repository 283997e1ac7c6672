/-
  The law TreeOrder where nothing is wrong, but for its closed fact.
-/
import Derived.Test.YtcohimljgjlkdaaSo
import Derived.Test.YtcohimljgjlkdaaSp
import Derived.BigQuiet
namespace Go.Proofs.Ytcohimljgjlkdaa
open Go.RowKit

/-- What the law asks of the order, without the program. -/
structure OrderFacts (S : List Nd) (k : Nat) (l : List Int) : Prop where
  pos : 0 < l.length
  small : l.length ≤ 24
  head : l.getD 0 0 = k
  each : ∀ i, i < l.length → ∃ q : Nat, l.getD i 0 = q ∧ q < S.length ∧ (nd S q).u = true ∧ (q : Int) ∉ l.take i ∧ (0 < i → (nd S q).p ∈ l.take i)
  closed : ∀ q : Nat, q < S.length → 0 ≤ (nd S q).p → q ≠ k → decide ((nd S q).p ∈ l) = decide ((q : Int) ∈ l)

theorem hands_single (S : List Nd) (p u : Int) : handsE S [(p, u)] = holdsE S p u := by
  simp only [handsE]
  by_cases h : holdsE S p u = 0
  · rw [if_pos h, h]
  · rw [if_neg h]

theorem holds_zero {S : List Nd} {p u : Int} (h : holdsE S p u = 0) : ∃ k : Nat, p = k ∧ k < S.length ∧ (nd S k).u = true ∧ (nd S k).n = u := by
  unfold holdsE at h
  by_cases hp : isPl S.length p = true
  · rw [if_pos hp] at h
    have hp' : 0 ≤ p ∧ p ≤ (S.length : Int) - 1 := of_decide_eq_true hp
    obtain ⟨k, rfl⟩ : ∃ k : Nat, p = (k : Int) := ⟨p.toNat, by omega⟩
    rw [Int.toNat_natCast] at h
    refine ⟨k, rfl, by omega, ?_⟩
    unfold holdX at h
    split at h
    · split at h
      · split at h
        · exact ⟨by assumption, by assumption⟩
        · omega
      · omega
    · omega
  · rw [if_neg hp] at h
    omega

theorem tcheck_one {S : List Nd} {p u : Int} (h : tcheckE S [(p, u)] = 0) : WF S ∧ ∃ k : Nat, p = k ∧ k < S.length ∧ (nd S k).u = true ∧ (nd S k).n = u := by
  unfold tcheckE at h
  by_cases hc : checkE S = 0
  · rw [if_pos hc, hands_single] at h
    exact ⟨(wf_iff S).1 hc, holds_zero h⟩
  · rw [if_neg hc] at h
    exact absurd h hc

theorem orderFacts {S : List Nd} (h : WF S) {k : Nat} (hk : k < S.length) (hu : (nd S k).u = true) : OrderFacts S k (orderS S k) := by
  have hD := h.deep_all hk
  have hn := nodup_order h hk (Nat.le_refl _) hD
  have hl := order_le h hk
  obtain ⟨r, hr, hP⟩ := par_root h hk hD
  have hmem : ∀ x ∈ orderS S k, ∃ q : Nat, x = q ∧ q < S.length ∧ (nd S q).u = true := fun x hx => by
    obtain ⟨q, e, hq, hu', _⟩ := mem_order h hk hD x hx
    refine ⟨q, e, hq, ?_⟩
    rcases hu' with rfl | hu'
    · exact hu
    · exact hu'
  have hpar : ∀ i, i < (orderS S k).length → 0 < i → (nd S ((orderS S k).getD i 0).toNat).p ∈ (orderS S k).take i := fun i hi h0 => by
    unfold orderS at hi ⊢
    rw [hr] at hi ⊢
    obtain ⟨i, rfl⟩ : ∃ j, i = j + 1 := ⟨i - 1, by omega⟩
    have := hP.get (i := i) (by simpa using hi)
    simpa using this
  refine ⟨by unfold orderS; rw [hr]; simp, by unfold orderS; have := h.small; omega, by unfold orderS; rw [hr]; simp, fun i hi => ?_, fun q hq hp hne => ?_⟩
  · obtain ⟨q, e, hq, hu'⟩ := hmem ((orderS S k).getD i 0) (by rw [getD_elem _ 0 hi]; exact List.getElem_mem hi)
    refine ⟨q, e, hq, hu', fun hm => ?_, fun h0 => ?_⟩
    · obtain ⟨j, hj, ej⟩ := List.getElem_of_mem hm
      rw [List.length_take] at hj
      rw [List.getElem_take] at ej
      rw [getD_elem _ 0 hi] at e
      have hjl : j < (orderS S k).length := by omega
      have := (List.getElem?_inj (i := j) (j := i) hjl hn).1 (by show (orderS S k)[j]? = (orderS S k)[i]?; rw [List.getElem?_eq_getElem (by omega), List.getElem?_eq_getElem hi]; exact congrArg some (ej.trans e.symm))
      omega
    · have := hpar i hi h0
      rwa [e, Int.toNat_natCast] at this
  · obtain ⟨y, hy⟩ : ∃ y : Nat, (nd S q).p = (y : Int) := ⟨(nd S q).p.toNat, by omega⟩
    rw [hy]
    by_cases hm : (y : Int) ∈ orderS S k
    · have := kid_in h hk hD (y : Int) hm (q : Int) (by rw [Int.toNat_natCast]; exact (h.in_kids hq hy).2)
      rw [decide_eq_true hm, decide_eq_true (show (q : Int) ∈ orderS S k from this)]
    · have : (q : Int) ∉ orderS S k := fun hq' => by
        obtain ⟨i, hi, ei⟩ := List.getElem_of_mem hq'
        have h0 : 0 < i := by
          rcases Nat.eq_zero_or_pos i with rfl | h0
          · exfalso
            have : (orderS S k).getD 0 0 = (k : Int) := by unfold orderS; rw [hr]; simp
            rw [getD_elem _ 0 hi, ei] at this
            omega
          · exact h0
        have := hpar i hi h0
        rw [getD_elem _ 0 hi, ei, Int.toNat_natCast, hy] at this
        exact hm (List.mem_of_mem_take this)
      rw [decide_eq_false hm, decide_eq_false this]

end Go.Proofs.Ytcohimljgjlkdaa
