/-
  The contract of the closure by which above goes up: what was seen, and what was found, lie in memory of the call's own.
-/
import Derived.Test.YtcohimljgjlkdabVa
namespace Go.Proofs.Ytcohimljgjlkdab
open Go.RowKit

/-- What above has seen and found so far. -/
def AbvI (W : World) (bf gs N : Nat) (st : (Nat → Bool) × List Int) (w1 : World) : Prop :=
  Off (fun k => k = bf ∨ k = gs) W w1 ∧ w1.rowIs gs 4 N (fun j => .bool (st.1 j)) ∧ (st.2.Nodup ∧ ∀ x ∈ st.2, ∃ j : Nat, j < N ∧ x = j ∧ st.1 j = true) ∧
  ∃ v, w1.heap[bf]? = some (.cells #[v] 32 (0, 0)) ∧ w1.ownsRow W.heap.size 3 1 v st.2.length (st.2.map (Value.int .i64))

theorem box_set {w : World} {b t : Nat} {v v' : Value} (h : w.heap[b]? = some (.cells #[v] t (0, 0))) : (w.setCell ⟨b, 0, none⟩ v').heap[b]? = some (.cells #[v'] t (0, 0)) := by
  show (w.heap.modify b _)[b]? = _
  rw [Array.getElem?_modify, if_pos rfl, h]
  rfl

theorem box_frozen {w : World} {b t o : Nat} {v : Value} (h : w.heap[b]? = some (.cells #[v] t (0, 0))) : w.frozen? ⟨b, o, none⟩ = false := by
  simp [World.frozen?, h]

theorem AbvI.small {W w1 : World} {bf gs N : Nat} {st : (Nat → Bool) × List Int} (h : AbvI W bf gs N st w1) : st.2.length ≤ N := by
  obtain ⟨_, _, ⟨h1, h2⟩, _⟩ := h
  have := h1.length_le_of_subset (l₂ := (List.range N).map (fun i : Nat => (i : Int))) (fun x hx => by
    obtain ⟨j, hj, rfl, _⟩ := h2 x hx
    exact List.mem_map.2 ⟨j, List.mem_range.2 hj, rfl⟩)
  simpa using this

theorem AbvI.below {W w1 w2 : World} {bf gs N : Nat} {st : (Nat → Bool) × List Int} (h : AbvI W bf gs N st w1) (hb : Below w1.heap.size w1 w2) : AbvI W bf gs N st w2 := by
  obtain ⟨hO, hR, hN, v, hc, hown⟩ := h
  have hbw := (Array.getElem?_eq_some_iff.1 hc).1
  exact ⟨hO.trans (Off.of_below hb), hR.of_block (hb.block gs hR.lt), hN, v, (hb.block _ hbw).trans hc, hown.kept (row := none) ⟨hb.os, hb.tape, hb.output, hb.size, fun k hk _ => hb.block k hk⟩ (by
    cases hv : v.ownBlock with
    | none => exact Or.inl rfl
    | some k => exact Or.inr (fun e => by cases e))⟩

/-- One more found: the seen row turned in one cell, the slice grown, its variable stored anew. -/
theorem AbvI.step {W w1 w2 : World} {bf gs N j : Nat} {st : (Nat → Bool) × List Int} (h : AbvI W bf gs N st w1) (hbf : bf < W.heap.size) (hgs : gs < W.heap.size) (hne : bf ≠ gs) (hj : j < N) (hs : st.1 j = false) {v v' : Value} (hc : w1.heap[bf]? = some (.cells #[v] 32 (0, 0))) (o1 : Obj)
    (hown : w1.ownsRow W.heap.size 3 1 v st.2.length (st.2.map (Value.int .i64)))
    (hown' : w2.ownsRow W.heap.size 3 1 v' (st.2.length + 1) (st.2.map (Value.int .i64) ++ [.int .i64 (j : Int)])) (hg : ((w1.setCell ⟨gs, j, none⟩ (.bool true)).alloc o1).grownBy w2 v.ownBlock) :
    w2.heap[bf]? = some (.cells #[v] 32 (0, 0)) ∧ (∀ k : Nat, ∀ x t, w1.heap[k]? = some (.cells #[x] t (0, 0)) → t ≠ 32 → t ≠ 4 → t ≠ 3 → (w2.setCell ⟨bf, 0, none⟩ v').heap[k]? = w1.heap[k]?) ∧ AbvI W bf gs N (fun i => if i = j then true else st.1 i, st.2 ++ [(j : Int)]) (w2.setCell ⟨bf, 0, none⟩ v') := by
  obtain ⟨hO, hR, ⟨hN1, hN2⟩, v0, hc0, _⟩ := h
  have hrow : ∀ k, v.ownBlock = some k → W.heap.size ≤ k := fun k hk => (hown.lt k hk).1
  have hsz := hO.size
  have hblk : ∀ k, k < W.heap.size → k ≠ gs → w2.heap[k]? = w1.heap[k]? := fun k hk hkg =>
    (hg.block k (by simp; omega) (fun e => by have := hrow k e.symm; omega)).trans ((Below.heap_alloc _ _ _ (by simp; omega)).trans (Below.heap_setCell _ _ _ _ (by exact hkg)))
  have hgs2 : w2.heap[gs]? = (w1.setCell ⟨gs, j, none⟩ (.bool true)).heap[gs]? :=
    (hg.block gs (by simp; omega) (fun e => by have := hrow gs e.symm; omega)).trans (Below.heap_alloc _ _ _ (by simp; omega))
  have hc2 : w2.heap[bf]? = some (.cells #[v] 32 (0, 0)) := (hblk bf hbf hne).trans hc
  refine ⟨hc2, fun k x t hk h1 h2 h3 => ?_, ?_, ?_, ⟨?_, ?_⟩, v', box_set hc2, ?_⟩
  · have hkl := (Array.getElem?_eq_some_iff.1 hk).1
    have n1 : k ≠ bf := fun e => by rw [e, hc] at hk; cases hk; exact h1 rfl
    have n2 : k ≠ gs := fun e => by
      obtain ⟨cur, hcur, _⟩ := hR
      rw [e, hcur] at hk; cases hk; exact h2 rfl
    rw [Below.heap_setCell _ _ _ _ (by exact n1), hg.block k (by simp; omega) (fun e => by
      rcases hown.2 with ⟨hv, _⟩ | ⟨g, cap, cur, hv, _, hcur, _⟩
      · rw [hv] at e; cases e
      · rw [hv] at e
        have : k = g := by simpa [Value.ownBlock] using e
        rw [this, hcur] at hk; cases hk; exact h3 rfl), Below.heap_alloc _ _ _ (by simp; omega), Below.heap_setCell _ _ _ _ (by exact n2)]
  · refine ⟨?_, ?_, ?_, ?_, fun k hk hx => ?_⟩
    · exact hg.os.trans hO.os
    · exact hg.tape.trans hO.tape
    · exact hg.output.trans hO.output
    · have := hg.size; simp at this ⊢; omega
    · rw [Below.heap_setCell _ _ _ _ (by show k ≠ bf; exact fun e => hx (Or.inl e)), hblk k hk (fun e => hx (Or.inr e))]; exact hO.block k hk hx
  · have h1 := ((hR.set j (.bool true)).of_block hgs2).setOther (a := ⟨bf, 0, none⟩) (by simp; omega) v'
    refine h1.congr (fun i _ => ?_)
    dsimp only
    by_cases e : i = j
    · rw [if_pos e, if_pos e]
    · rw [if_neg e, if_neg e]
  · rw [List.nodup_append]
    refine ⟨hN1, by simp, fun a ha b hb e => ?_⟩
    have hbj : b = (j : Int) := by simpa using hb
    obtain ⟨i, hi, hia, hst⟩ := hN2 a ha
    have : i = j := by omega
    rw [this, hs] at hst
    cases hst
  · intro x hx
    rcases List.mem_append.1 hx with hx | hx
    · obtain ⟨i, hi, rfl, hst⟩ := hN2 x hx
      refine ⟨i, hi, rfl, ?_⟩
      dsimp only
      by_cases e : i = j
      · rw [if_pos e]
      · rw [if_neg e]; exact hst
    · exact ⟨j, hj, by simpa using hx, if_pos rfl⟩
  · have h3 := hown'.kept (grownBy_setCell w2 ⟨bf, 0, none⟩ v') (by
      cases hb : v'.ownBlock with
      | none => exact Or.inl rfl
      | some k => right; intro e; have := (hown'.lt k hb).1; simp at e; omega)
    simpa using h3
end Go.Proofs.Ytcohimljgjlkdab
