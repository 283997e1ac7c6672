/-
  What a hand holds while nodes are made and freed, without the program.
-/
import Derived.Test.YtcohimljgjlkdaaXd
namespace Go.Proofs.Ytcohimljgjlkdaa
open Go.RowKit

/-- The hand on place hp, use hu: it holds the node with that tag, or, once that is gone, nothing ever. -/
def HeldS (S : List Nd) (hp : Nat) (hu tag : Int) (gone : Bool) : Prop :=
  hp < S.length ∧ 1 ≤ hu ∧ (gone = true → hu ≤ (nd S hp).n ∧ ((nd S hp).u = true → hu < (nd S hp).n)) ∧ (gone = false → (nd S hp).u = true ∧ (nd S hp).n = hu ∧ (nd S hp).t = tag)

theorem held_made {S : List Nd} (h : WF S) {k : Nat} (hk : k < S.length) (tag : Int) : HeldS (S.set k (madeNd (nd S k) tag)) k ((nd S k).n + 1) tag false := by
  have := (h.uses hk).1
  refine ⟨by simpa using hk, by omega, fun e => (by cases e), fun _ => ?_⟩
  rw [nd_set S k k _ hk, if_pos rfl]
  exact ⟨rfl, rfl, rfl⟩

theorem HeldS.make {S : List Nd} {hp : Nat} {hu tag : Int} {gone : Bool} (h : HeldS S hp hu tag gone) {k : Nat} (hk : k < S.length) (hf : freeB (nd S k) = true) (t : Int) :
    HeldS (S.set k (madeNd (nd S k) t)) hp hu tag gone ∧ ¬ (k = hp ∧ (nd S k).n + 1 = hu) := by
  obtain ⟨h1, h2, h3, h4⟩ := h
  obtain ⟨f1, f2⟩ := free_parts hf
  refine ⟨⟨by simpa using h1, h2, fun e => ?_, fun e => ?_⟩, fun ⟨e1, e2⟩ => ?_⟩
  · rw [nd_set S k hp _ hk]
    obtain ⟨g1, g2⟩ := h3 e
    split
    · rename_i e2
      subst e2
      refine ⟨?_, fun _ => ?_⟩ <;> (unfold madeNd; dsimp only; omega)
    · exact ⟨g1, g2⟩
  · rw [nd_set S k hp _ hk]
    obtain ⟨g1, g2⟩ := h4 e
    rw [if_neg (fun e2 => by subst e2; rw [f1] at g1; cases g1)]
    exact ⟨g1, g2⟩
  · subst e1
    cases gone with
    | true => have := (h3 rfl).1; omega
    | false =>
      have := (h4 rfl).1
      rw [f1] at this
      cases this

theorem HeldS.free {S : List Nd} {hp : Nat} {hu tag : Int} {gone : Bool} (h : HeldS S hp hu tag gone) {p : Nat} (hp' : p < S.length) (g2 : Bool) (hg : g2 = true ↔ (gone = true ∨ p = hp)) :
    HeldS (S.set p (freedNd (nd S p))) hp hu tag g2 := by
  obtain ⟨h1, h2, h3, h4⟩ := h
  refine ⟨by simpa using h1, h2, fun e => ?_, fun e => ?_⟩
  · rw [nd_set S p hp _ hp']
    split
    · rename_i e2
      subst e2
      refine ⟨?_, fun e3 => by cases e3⟩
      cases gone with
      | true => exact (h3 rfl).1
      | false => have := (h4 rfl).2.1; unfold freedNd; dsimp only; omega
    · rename_i e2
      rcases hg.1 e with g | g
      · exact h3 g
      · exact absurd g.symm e2
  · have n1 : ¬ gone = true := fun g => by have := hg.2 (Or.inl g); rw [e] at this; cases this
    have n2 : ¬ p = hp := fun g => by have := hg.2 (Or.inr g); rw [e] at this; cases this
    rw [nd_set S p hp _ hp', if_neg (Ne.symm n2)]
    exact h4 (by simpa using n1)

theorem HeldS.gone {S : List Nd} {hp : Nat} {hu tag : Int} (h : HeldS S hp hu tag true) : holdsE S hp hu = 5 := by
  obtain ⟨h1, h2, h3, _⟩ := h
  obtain ⟨g1, g2⟩ := h3 rfl
  unfold holdsE
  rw [if_pos (by unfold isPl; exact decide_eq_true ⟨by omega, by omega⟩), Int.toNat_natCast]
  unfold holdX
  rw [if_pos (decide_eq_true ⟨h2, g1⟩)]
  split
  · rename_i hu2
    have := g2 hu2
    rw [if_neg (by omega)]
  · rfl

theorem HeldS.find_gone {S : List Nd} {hp : Nat} {hu tag : Int} (h : HeldS S hp hu tag true) (wf : WF S) : findE S hp hu = 5 := by
  unfold findE
  rw [if_pos ((wf_iff _).2 wf)]
  exact h.gone

theorem HeldS.find {S : List Nd} {hp : Nat} {hu tag : Int} (h : HeldS S hp hu tag false) (wf : WF S) : findE S hp hu = 0 ∧ (nd S hp).t = tag := by
  obtain ⟨h1, h2, _, h4⟩ := h
  obtain ⟨g1, g2, g3⟩ := h4 rfl
  exact ⟨find_zero wf (holds_used h1 g1 g2 wf), g3⟩
end Go.Proofs.Ytcohimljgjlkdaa
