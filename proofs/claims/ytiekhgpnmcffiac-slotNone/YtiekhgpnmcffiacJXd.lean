/-
  Right stores, without the program: a node is made, a node is freed, and the store stays right.
-/
import Derived.Test.YtiekhgpnmcffiacJXa
import Derived.Test.YtiekhgpnmcffiacJSrWf
namespace Go.Proofs.Ytiekhgpnmcffiac
open Go.RowKit

def freedNd (x : Nd) : Nd := ⟨false, x.n, 0, 0, -1, [], -1, false⟩

/-- Does nothing hang on the node? -/
def looseB (S : List Nd) (k : Nat) : Prop := rightUnder (nd S k) = -1 ∧ (nd S k).ks = [] ∧ hostB S k = false

/-- A store with the same Parents, Kids and Hosts, in which those are in use that something names. -/
theorem WF.like {S A : List Nd} (h : WF S) (hl : A.length = S.length) (hn : ∀ i, i < S.length → nodeE S.length (nd A i) = 0)
    (hs : ∀ i, i < S.length → (nd A i).p = (nd S i).p ∧ (nd A i).ks = (nd S i).ks ∧ (nd A i).h = (nd S i).h)
    (hu : ∀ i, i < S.length → (nd S i).u = true → (nd A i).u = true ∨ ∀ j, j < S.length → (i : Int) ∉ (nd S j).ks ∧ (nd S j).h ≠ i) : WF A := by
  refine ⟨by rw [hl]; exact h.small, fun i hi => by rw [hl] at hi ⊢; exact hn i hi, kidsOk_of (fun i hi => ?_) (fun i hi x hx => ?_) (fun j hj hjp => ?_), fun i hi => ?_, fun i hi => ?_⟩
  · rw [hl] at hi
    rw [(hs i hi).2.1]
    exact h.kids_nodup hi
  · rw [hl] at hi ⊢
    rw [(hs i hi).2.1] at hx
    obtain ⟨k, rfl, k1, k2, k3, _⟩ := h.kid hi hx
    refine ⟨k, rfl, k1, ?_, by rw [(hs k k1).1]; exact k3⟩
    rcases hu k k1 k2 with g | g
    · exact g
    · exact absurd hx (g i hi).1
  · rw [hl] at hj ⊢
    rw [(hs j hj).1] at hjp
    obtain ⟨i, i1, i2, _, i3, _⟩ := h.parent_place hj hjp
    exact ⟨i, i2, by rw [(hs i i2).2.1]; exact i3⟩
  · rw [hl] at hi
    intro hh
    rw [(hs i hi).2.2] at hh ⊢
    obtain ⟨g1, g2⟩ := h.hosts i hi hh
    have hb := (names_ks (names_of (h.node i hi))).2.1
    obtain ⟨q, hq⟩ : ∃ q : Nat, (nd S i).h = (q : Int) := ⟨(nd S i).h.toNat, by omega⟩
    refine ⟨?_, fun i' hi' => by rw [(hs i' (by omega)).2.2]; exact g2 i' hi'⟩
    rw [hq, Int.toNat_natCast] at g1 ⊢
    rcases hu q (by omega) g1 with g | g
    · exact g
    · exact absurd hq (g i hi).2
  · rw [hl] at hi
    cases hb : underB A i i with
    | false => rfl
    | true =>
      obtain ⟨j, j1, j2, j3⟩ := under_up (by rw [hl]; exact hi) hb
      rw [hl] at j2
      exact absurd (up_same hl (fun y hy z e => by unfold rightUnder at e ⊢; rw [(hs y hy).1, (hs y hy).2.2] at e; exact e) hi j3) (h.no_ring hi j1 j2)

theorem WF.unused {S : List Nd} (h : WF S) {k : Nat} (hk : k < S.length) (hu : (nd S k).u = false) : (nd S k).t = 0 ∧ (nd S k).m = 0 ∧ (nd S k).p = -1 ∧ (nd S k).ks = [] ∧ (nd S k).h = -1 ∧ (nd S k).c = false := by
  have hf := (node_parts (h.node k hk)).2.2
  unfold formB at hf
  rw [hu] at hf
  exact of_decide_eq_true hf

theorem WF.uses {S : List Nd} (h : WF S) {k : Nat} (hk : k < S.length) : 0 ≤ (nd S k).n ∧ (nd S k).n ≤ 1000000 ∧ ((nd S k).u = true → 1 ≤ (nd S k).n) := by
  obtain ⟨h1, _, h3⟩ := node_parts (h.node k hk)
  unfold rangeB at h1
  simp only [Bool.and_eq_true, decide_eq_true_eq] at h1
  refine ⟨h1.1.1, h1.1.2, fun hu => ?_⟩
  unfold formB at h3
  rw [if_pos hu] at h3
  by_cases e : (nd S k).n = 0
  · rw [if_pos e] at h3
    cases h3
  · have := h1.1.1
    omega

theorem free_parts {x : Nd} (h : freeB x = true) : x.u = false ∧ x.n < 1000000 := by
  unfold freeB at h
  simpa using h

theorem WF.make {S : List Nd} (h : WF S) {k : Nat} {t : Int} (hk : k < S.length) (hf : freeB (nd S k) = true) (ht0 : 0 ≤ t) (ht1 : t ≤ 99) : WF (S.set k (madeNd (nd S k) t)) := by
  obtain ⟨hu, hn⟩ := free_parts hf
  obtain ⟨q1, q2, q3, q4, q5, q6⟩ := h.unused hk hu
  obtain ⟨n0, n1, _⟩ := h.uses hk
  refine h.like (by simp) (fun i hi => ?_) (fun i hi => ?_) (fun i hi hiu => ?_)
  · rw [nd_set S k i _ hk]
    split
    · rename_i e
      subst e
      obtain ⟨r1, r2, r3⟩ := node_parts (h.node i hi)
      obtain ⟨m1, m2, m3⟩ := names_parts r2
      refine node_of ?_ (names_mk m1 m2 m3) ?_
      · unfold rangeB madeNd
        simp only [Bool.and_eq_true, decide_eq_true_eq]
        exact ⟨⟨by omega, by omega⟩, ⟨ht0, ht1⟩, by rw [q2]; omega, by rw [q2]; omega⟩
      · unfold formB madeNd
        simp only [if_true]
        rw [if_neg (by omega), if_pos q5, q6]
        rfl
    · exact h.node i hi
  · rw [nd_set S k i _ hk]
    split
    · rename_i e
      subst e
      exact ⟨rfl, rfl, rfl⟩
    · exact ⟨rfl, rfl, rfl⟩
  · rw [nd_set S k i _ hk]
    split
    · exact Or.inl rfl
    · exact Or.inl hiu

theorem loose_parts {S : List Nd} {k : Nat} (h : looseB S k) : (nd S k).p = -1 ∧ (nd S k).h = -1 ∧ (nd S k).ks = [] ∧ ∀ j, j < S.length → (nd S j).h ≠ k := by
  obtain ⟨h1, h2, h3⟩ := h
  unfold rightUnder at h1
  by_cases e : (nd S k).h = -1
  · rw [if_pos e] at h1
    exact ⟨h1, e, h2, hostB_false.1 h3⟩
  · rw [if_neg e] at h1
    exact absurd h1 e

theorem WF.free {S : List Nd} (h : WF S) {k : Nat} (hk : k < S.length) (hL : looseB S k) : WF (S.set k (freedNd (nd S k))) := by
  obtain ⟨hp, hh, hks, hH⟩ := loose_parts hL
  obtain ⟨n0, n1, _⟩ := h.uses hk
  refine h.like (by simp) (fun i hi => ?_) (fun i hi => ?_) (fun i hi hiu => ?_)
  · rw [nd_set S k i _ hk]
    split
    · rename_i e
      subst e
      refine node_of ?_ (names_mk ?_ ?_ (fun y hy => absurd hy (by simp [freedNd]))) ?_
      · unfold rangeB freedNd
        simp only [Bool.and_eq_true, decide_eq_true_eq]
        exact ⟨⟨n0, n1⟩, by omega, by omega⟩
      · unfold freedNd okPl
        exact decide_eq_true ⟨by dsimp only; omega, by dsimp only; omega⟩
      · unfold freedNd okPl
        exact decide_eq_true ⟨by dsimp only; omega, by dsimp only; omega⟩
      · unfold formB freedNd
        simp
    · exact h.node i hi
  · rw [nd_set S k i _ hk]
    split
    · rename_i e
      subst e
      exact ⟨hp.symm, hks.symm, hh.symm⟩
    · exact ⟨rfl, rfl, rfl⟩
  · by_cases e : i = k
    · subst e
      exact Or.inr (fun j hj => ⟨h.not_kid hp hj, hH j hj⟩)
    · rw [nd_set S k i _ hk, if_neg e]
      exact Or.inl hiu

theorem wf_new (n : Nat) (hn : n ≤ 24) : WF (List.replicate n unusedNd) := by
  have hnd : ∀ i, i < n → nd (List.replicate n unusedNd) i = unusedNd := fun i hi => nd_replicate n i _ hi
  have hl : (List.replicate n unusedNd).length = n := by simp
  refine ⟨by rw [hl]; exact hn, fun i hi => ?_, kidsOk_of (fun i hi => ?_) (fun i hi x hx => ?_) (fun j hj hjp => ?_), fun i hi => ?_, fun i hi => ?_⟩
  · rw [hl] at hi ⊢
    rw [hnd i hi]
    refine node_of (by decide) (names_mk ?_ ?_ (fun y hy => absurd hy (by simp [unusedNd]))) (by decide)
    · unfold unusedNd okPl
      exact decide_eq_true ⟨by dsimp only; omega, by dsimp only; omega⟩
    · unfold unusedNd okPl
      exact decide_eq_true ⟨by dsimp only; omega, by dsimp only; omega⟩
  · rw [hl] at hi
    rw [hnd i hi]
    exact List.nodup_nil
  · rw [hl] at hi
    rw [hnd i hi] at hx
    cases hx
  · rw [hl] at hj
    rw [hnd j hj] at hjp
    exact absurd rfl hjp
  · rw [hl] at hi
    intro hh
    rw [hnd i hi] at hh
    exact absurd rfl hh
  · cases hb : underB (List.replicate n unusedNd) i i with
    | false => rfl
    | true =>
      obtain ⟨j, j1, j2, j3⟩ := under_up hi hb
      obtain ⟨j', rfl⟩ : ∃ j', j = j' + 1 := ⟨j - 1, by omega⟩
      obtain ⟨z, _, hz, _⟩ := j3
      rw [hl] at hi
      rw [hnd i hi] at hz
      have : (-1 : Int) = (z : Int) := hz
      omega
end Go.Proofs.Ytiekhgpnmcffiac
