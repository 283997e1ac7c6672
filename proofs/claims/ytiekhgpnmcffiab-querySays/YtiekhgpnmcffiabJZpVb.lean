/-
  Rows of a call's own, and boxes: what is known of them.
-/
import Derived.Test.YtiekhgpnmcffiabJZa
import Derived.Test.YtiekhgpnmcffiabJUe
import Derived.Test.YtiekhgpnmcffiabJVa
namespace Go.Proofs.Ytiekhgpnmcffiab
open Go.RowKit

theorem box_set {w : World} {b t : Nat} {v v' : Value} (h : w.heap[b]? = some (.cells #[v] t (0, 0))) : (w.setCell ⟨b, 0, none⟩ v').heap[b]? = some (.cells #[v'] t (0, 0)) := by
  show (w.heap.modify b _)[b]? = _
  rw [Array.getElem?_modify, if_pos rfl, h]
  rfl

theorem box_frozen {w : World} {b t o : Nat} {v : Value} (h : w.heap[b]? = some (.cells #[v] t (0, 0))) : w.frozen? ⟨b, o, none⟩ = false := by
  simp [World.frozen?, h]

theorem ownsRow_base {w : World} {B B' e size n : Nat} {v : Value} {xs : List Value} (h : w.ownsRow B e size v n xs) (hB : B' ≤ B) : w.ownsRow B' e size v n xs := by
  obtain ⟨h1, h2⟩ := h
  refine ⟨h1, ?_⟩
  rcases h2 with h2 | ⟨g, cap, cur, h3, h4, h5⟩
  · exact Or.inl h2
  · exact Or.inr ⟨g, cap, cur, h3, Nat.le_trans hB h4, h5⟩

theorem infoBool : (Try.prog.info? 4).map (fun i => (i.zero, i.size, i.bytes)) = some (some (.bool false), 1, 1) := by kernel_rfl

theorem makeBools (n : Nat) (hn : n ≤ 24) (w : World) : (Instr.makeSlice 98 (.int .i64 (n : Int)) (.int .i64 (n : Int))).run Try.prog w = .ok (.slice (some ⟨w.heap.size, 0, none⟩) n n) (w.alloc (.cells (madeCells #[.bool false] n) 4)) :=
  run_make_row' (P := Try.prog) 98 4 (.bool false) 1 Try.underlying98 infoBool rfl .i64 .i64 n (by omega) (by omega) w

theorem row_of_own {w : World} {B g n cap : Nat} {ks : List Int} (h : w.ownsRow B 3 1 (.slice (some ⟨g, 0, none⟩) n cap) n (ks.map (Value.int .i64))) : B ≤ g ∧ n ≤ cap ∧ cap ≤ maxLen ∧ ks.length = n ∧ ∃ G, w.rowIs g 3 cap G ∧ ∀ j, j < n → G j = .int .i64 (ks.getD j 0) := by
  obtain ⟨hl, h⟩ := h
  rw [List.length_map, Nat.mul_one] at hl
  rcases h with ⟨h, _⟩ | ⟨g', cap', cur, e, h1, h2, h3, h4, h5, h6⟩
  · cases h
  · cases e
    rw [Nat.mul_one] at h5 h6
    refine ⟨h1, h3, h4, hl, fun j => cur[j]?.getD undef, ⟨cur, h2, h5, fun i hi => ?_⟩, fun j hj => ?_⟩
    · show cur[i]? = some (cur[i]?.getD undef)
      rw [Array.getElem?_eq_getElem (by omega)]
      rfl
    · have h7 : (cur.toList.take n)[j]? = (ks.map (Value.int .i64))[j]? := by rw [h6]
      rw [List.getElem?_take, if_pos hj, List.getElem?_map, List.getElem?_eq_getElem (l := ks) (by omega)] at h7
      show cur[j]?.getD undef = _
      rw [← Array.getElem?_toList, h7, getD_elem ks 0 (by omega)]
      rfl

theorem own_of_row {w : World} {B g cap : Nat} {l : List Int} {G : Nat → Value} (h : w.rowIs g 3 cap G) (hg : ∀ j, j < l.length → G j = .int .i64 (l.getD j 0)) (h1 : l.length ≤ cap) (h2 : cap ≤ maxLen) (h3 : B ≤ g) : w.ownsRow B 3 1 (.slice (some ⟨g, 0, none⟩) l.length cap) l.length (l.map (Value.int .i64)) := by
  obtain ⟨cur, hc, hs, hf⟩ := h
  refine ⟨by simp, Or.inr ⟨g, cap, cur, rfl, h3, hc, h1, h2, by omega, ?_⟩⟩
  rw [Nat.mul_one]
  refine List.ext_getElem? fun j => ?_
  rw [List.getElem?_take, List.getElem?_map]
  by_cases hj : j < l.length
  · rw [if_pos hj, Array.getElem?_toList, hf j (by omega), hg j hj, List.getElem?_eq_getElem hj, getD_elem l 0 hj]
    rfl
  · rw [if_neg hj, List.getElem?_eq_none (by omega)]
    rfl

theorem own_slice {w : World} {B : Nat} {v : Value} {ks : List Int} (h : w.ownsRow B 3 1 v ks.length (ks.map (Value.int .i64))) : ∃ pa pc, v = .slice pa ks.length pc ∧ IntsAt w pa ks ∧ (∀ k, v.ownBlock = some k → B ≤ k ∧ k < w.heap.size) := by
  have hlt := h.lt
  rcases h.2 with ⟨e, e0⟩ | ⟨g, cap, cur, e, _⟩
  · have hk : ks = [] := List.length_eq_zero_iff.1 e0
    subst hk
    exact ⟨none, 0, e, fun i hi => absurd hi (Nat.not_lt_zero _), hlt⟩
  · subst e
    obtain ⟨_, h2, _, _, G, hG, hGk⟩ := row_of_own h
    exact ⟨some ⟨g, 0, none⟩, cap, rfl, ints_of_row hG h2 hGk, hlt⟩

end Go.Proofs.Ytiekhgpnmcffiab

namespace Go.Proofs.Ytiekhgpnmcffiab
open Go.RowKit

/-- What above has seen and found so far. -/
def AbvI (W : World) (bf gs N : Nat) (st : (Nat → Bool) × List Int) (w1 : World) : Prop :=
  Off (fun k => k = bf ∨ k = gs) W w1 ∧ w1.rowIs gs 4 N (fun j => .bool (st.1 j)) ∧ (st.2.Nodup ∧ ∀ x ∈ st.2, ∃ j : Nat, j < N ∧ x = j ∧ st.1 j = true) ∧
  ∃ v, w1.heap[bf]? = some (.cells #[v] 32 (0, 0)) ∧ w1.ownsRow W.heap.size 3 1 v st.2.length (st.2.map (Value.int .i64))

theorem AbvI.small {W w1 : World} {bf gs N : Nat} {st : (Nat → Bool) × List Int} (h : AbvI W bf gs N st w1) : st.2.length ≤ N := by
  obtain ⟨_, _, ⟨h1, h2⟩, _⟩ := h
  have := h1.length_le_of_subset (l₂ := (List.range N).map (fun i : Nat => (i : Int))) (fun x hx => by
    obtain ⟨j, hj, rfl, _⟩ := h2 x hx
    exact List.mem_map.2 ⟨j, List.mem_range.2 hj, rfl⟩)
  simpa using this

theorem AbvI.below {W w1 w2 : World} {bf gs N : Nat} {st : (Nat → Bool) × List Int} (h : AbvI W bf gs N st w1) (hb : Below w1.heap.size w1 w2) : AbvI W bf gs N st w2 := by
  obtain ⟨hO, hR, hN, v, hc, hown⟩ := h
  have hbw := (Array.getElem?_eq_some_iff.1 hc).1
  exact ⟨hO.trans (Off.of_below hb), hR.of_block (hb.block gs hR.lt), hN, v, (hb.block _ hbw).trans hc, hown.kept (row := none) ⟨hb.os, hb.tape, hb.output, hb.size, fun k hk _ => hb.block k hk⟩ (by
    cases hv : v.ownBlock with
    | none => exact Or.inl rfl
    | some k => exact Or.inr (fun e => by cases e))⟩

/-- One more found: the seen row turned in one cell, the slice grown, its variable stored anew. -/
theorem AbvI.step {W w1 w2 : World} {bf gs N j : Nat} {st : (Nat → Bool) × List Int} (h : AbvI W bf gs N st w1) (hbf : bf < W.heap.size) (hgs : gs < W.heap.size) (hne : bf ≠ gs) (hj : j < N) (hs : st.1 j = false) {v v' : Value} (hc : w1.heap[bf]? = some (.cells #[v] 32 (0, 0))) (o1 : Obj)
    (hown : w1.ownsRow W.heap.size 3 1 v st.2.length (st.2.map (Value.int .i64)))
    (hown' : w2.ownsRow W.heap.size 3 1 v' (st.2.length + 1) (st.2.map (Value.int .i64) ++ [.int .i64 (j : Int)])) (hg : ((w1.setCell ⟨gs, j, none⟩ (.bool true)).alloc o1).grownBy w2 v.ownBlock) :
    w2.heap[bf]? = some (.cells #[v] 32 (0, 0)) ∧ (∀ k : Nat, ∀ x t, w1.heap[k]? = some (.cells #[x] t (0, 0)) → t ≠ 32 → t ≠ 4 → t ≠ 3 → (w2.setCell ⟨bf, 0, none⟩ v').heap[k]? = w1.heap[k]?) ∧ AbvI W bf gs N (fun i => if i = j then true else st.1 i, st.2 ++ [(j : Int)]) (w2.setCell ⟨bf, 0, none⟩ v') := by
  obtain ⟨hO, hR, ⟨hN1, hN2⟩, v0, hc0, _⟩ := h
  have hrow : ∀ k, v.ownBlock = some k → W.heap.size ≤ k := fun k hk => (hown.lt k hk).1
  have hsz := hO.size
  have hblk : ∀ k, k < W.heap.size → k ≠ gs → w2.heap[k]? = w1.heap[k]? := fun k hk hkg =>
    (hg.block k (by simp; omega) (fun e => by have := hrow k e.symm; omega)).trans ((Below.heap_alloc _ _ _ (by simp; omega)).trans (Below.heap_setCell _ _ _ _ (by exact hkg)))
  have hgs2 : w2.heap[gs]? = (w1.setCell ⟨gs, j, none⟩ (.bool true)).heap[gs]? :=
    (hg.block gs (by simp; omega) (fun e => by have := hrow gs e.symm; omega)).trans (Below.heap_alloc _ _ _ (by simp; omega))
  have hc2 : w2.heap[bf]? = some (.cells #[v] 32 (0, 0)) := (hblk bf hbf hne).trans hc
  refine ⟨hc2, fun k x t hk h1 h2 h3 => ?_, ?_, ?_, ⟨?_, ?_⟩, v', box_set hc2, ?_⟩
  · have hkl := (Array.getElem?_eq_some_iff.1 hk).1
    have n1 : k ≠ bf := fun e => by rw [e, hc] at hk; cases hk; exact h1 rfl
    have n2 : k ≠ gs := fun e => by
      obtain ⟨cur, hcur, _⟩ := hR
      rw [e, hcur] at hk; cases hk; exact h2 rfl
    rw [Below.heap_setCell _ _ _ _ (by exact n1), hg.block k (by simp; omega) (fun e => by
      rcases hown.2 with ⟨hv, _⟩ | ⟨g, cap, cur, hv, _, hcur, _⟩
      · rw [hv] at e; cases e
      · rw [hv] at e
        have : k = g := by simpa [Value.ownBlock] using e
        rw [this, hcur] at hk; cases hk; exact h3 rfl), Below.heap_alloc _ _ _ (by simp; omega), Below.heap_setCell _ _ _ _ (by exact n2)]
  · refine ⟨?_, ?_, ?_, ?_, fun k hk hx => ?_⟩
    · exact hg.os.trans hO.os
    · exact hg.tape.trans hO.tape
    · exact hg.output.trans hO.output
    · have := hg.size; simp at this ⊢; omega
    · rw [Below.heap_setCell _ _ _ _ (by show k ≠ bf; exact fun e => hx (Or.inl e)), hblk k hk (fun e => hx (Or.inr e))]; exact hO.block k hk hx
  · have h1 := ((hR.set j (.bool true)).of_block hgs2).setOther (a := ⟨bf, 0, none⟩) (by simp; omega) v'
    refine h1.congr (fun i _ => ?_)
    dsimp only
    by_cases e : i = j
    · rw [if_pos e, if_pos e]
    · rw [if_neg e, if_neg e]
  · rw [List.nodup_append]
    refine ⟨hN1, by simp, fun a ha b hb e => ?_⟩
    have hbj : b = (j : Int) := by simpa using hb
    obtain ⟨i, hi, hia, hst⟩ := hN2 a ha
    have : i = j := by omega
    rw [this, hs] at hst
    cases hst
  · intro x hx
    rcases List.mem_append.1 hx with hx | hx
    · obtain ⟨i, hi, rfl, hst⟩ := hN2 x hx
      refine ⟨i, hi, rfl, ?_⟩
      dsimp only
      by_cases e : i = j
      · rw [if_pos e]
      · rw [if_neg e]; exact hst
    · exact ⟨j, hj, by simpa using hx, if_pos rfl⟩
  · have h3 := hown'.kept (grownBy_setCell w2 ⟨bf, 0, none⟩ v') (by
      cases hb : v'.ownBlock with
      | none => exact Or.inl rfl
      | some k => right; intro e; have := (hown'.lt k hb).1; simp at e; omega)
    simpa using h3
end Go.Proofs.Ytiekhgpnmcffiab
