/-
  Cells of boxes that were made, and what stays of them; rows of a call's own: small facts for the walks.
-/
import Derived.Test.YtgjfmepbphfjoaaUSa
import Derived.Laws.AppendOwn
import Derived.Laws.Rows
namespace Go.Proofs.Ytgjfmepbphfjoaa
open Go.RowKit

theorem alloc_cell (W : World) (xs : Array Value) (t j : Nat) {v : Value} (h : xs[j]? = some v) : (W.alloc (.cells xs t)).cell? ⟨W.heap.size, j, none⟩ = some v := by
  have e := heap_alloc_new W (.cells xs t)
  simp only [World.cell?, e]
  exact h
theorem keepC {W W' : World} {b o : Nat} {v : Value} (h : W.cell? ⟨b, o, none⟩ = some v) (hb : Below W.heap.size W W') : W'.cell? ⟨b, o, none⟩ = some v := (hb.cell (World.block_lt_of_cell? _ _ h)).trans h
theorem one_belowS (w : World) (o1 : Obj) : Below w.heap.size w (w.alloc o1) := (Below.refl _ _).alloc (Nat.le_refl _) _
theorem two_belowS (w : World) (o1 o2 : Obj) : Below w.heap.size w ((w.alloc o1).alloc o2) := ((Below.refl _ _).alloc (Nat.le_refl _) _).alloc (by simp) _
theorem alloc_cell1 (W : World) (xs : Array Value) (t j : Nat) {v : Value} (o2 : Obj) (h : xs[j]? = some v) : ((W.alloc (.cells xs t)).alloc o2).cell? ⟨W.heap.size, j, none⟩ = some v := keepC (alloc_cell W xs t j h) (one_belowS _ _)
theorem alloc_cell2 (W : World) (xs : Array Value) (t j : Nat) {v : Value} (o1 : Obj) (h : xs[j]? = some v) : ((W.alloc o1).alloc (.cells xs t)).cell? ⟨W.heap.size + 1, j, none⟩ = some v := by
  have := alloc_cell (W.alloc o1) xs t j h
  simpa using this

theorem owns_block {w w' : World} {B e size n : Nat} {v : Value} {xs : List Value} (h : w.ownsRow B e size v n xs) (hb : ∀ k, v.ownBlock = some k → w'.heap[k]? = w.heap[k]?) : w'.ownsRow B e size v n xs := by
  obtain ⟨hl, h⟩ := h
  refine ⟨hl, ?_⟩
  rcases h with h | ⟨g, cap, cur, rfl, h1, h2, h3⟩
  · exact Or.inl h
  · exact Or.inr ⟨g, cap, cur, rfl, h1, (hb g rfl).trans h2, h3⟩

theorem ownsRow_baseL {w : World} {B B' e size n : Nat} {v : Value} {xs : List Value} (h : w.ownsRow B e size v n xs) (hB : B' ≤ B) : w.ownsRow B' e size v n xs := by
  obtain ⟨hl, h⟩ := h
  refine ⟨hl, ?_⟩
  rcases h with h | ⟨g, cap, cur, rfl, h1, h2, h3⟩
  · exact Or.inl h
  · exact Or.inr ⟨g, cap, cur, rfl, by omega, h2, h3⟩

/-- Two rows of different types are not one. -/
theorem owns_apart {w : World} {B B' e e' size size' n n' : Nat} {v v' : Value} {xs xs' : List Value} (h : w.ownsRow B e size v n xs) (h' : w.ownsRow B' e' size' v' n' xs') (hne : e ≠ e') : ∀ k, v.ownBlock = some k → v'.ownBlock ≠ some k := by
  intro k hk hk'
  obtain ⟨_, h⟩ := h
  obtain ⟨_, h'⟩ := h'
  rcases h with ⟨rfl, _⟩ | ⟨g, cap, cur, rfl, _, h2, _⟩
  · cases hk
  rcases h' with ⟨rfl, _⟩ | ⟨g', cap', cur', rfl, _, h2', _⟩
  · cases hk'
  cases hk
  cases hk'
  rw [h2] at h2'
  cases h2'
  exact hne rfl

theorem ints_own {B : Nat} {w2 : World} {v : Value} {l : List Int} {n : Nat} (hown : w2.ownsRow B 3 1 v n (l.map (Value.int .i64))) : ∃ sa cap, v = .slice sa l.length cap ∧ IntsAt w2 sa l := by
  have hn : n = l.length := by have := hown.1; simp at this; omega
  subst hn
  obtain ⟨hl, h⟩ := hown
  rcases h with ⟨rfl, h0⟩ | ⟨g, cap, cur, rfl, _, hg, h1, h2, h3, h4⟩
  · exact ⟨none, 0, by rw [h0], fun i hi => by omega⟩
  · refine ⟨some ⟨g, 0, none⟩, cap, rfl, fun i hi => ⟨g, 0, rfl, ?_⟩⟩
    have h5 : (cur.toList.take (l.length * 1))[i]? = some (.int .i64 (l.getD i 0)) := by
      rw [h4, List.getElem?_map, List.getElem?_eq_getElem hi, getD_elem l 0 hi]; rfl
    rw [List.getElem?_take, if_pos (by omega)] at h5
    simp only [Nat.zero_add, World.cell?, hg]
    simpa using h5

theorem box_set {w : World} {b t : Nat} {v v' : Value} (h : w.heap[b]? = some (.cells #[v] t (0, 0))) : (w.setCell ⟨b, 0, none⟩ v').heap[b]? = some (.cells #[v'] t (0, 0)) := by
  show (w.heap.modify b _)[b]? = _
  rw [Array.getElem?_modify, if_pos rfl, h]
  rfl

theorem box_frozen {w : World} {b t o : Nat} {v : Value} (h : w.heap[b]? = some (.cells #[v] t (0, 0))) : w.frozen? ⟨b, o, none⟩ = false := by
  simp [World.frozen?, h]

/-- A block of cells is no map, and the other way round. -/
theorem box_cell {w : World} {b t : Nat} {v : Value} (h : w.heap[b]? = some (.cells #[v] t (0, 0))) : w.cell? ⟨b, 0, none⟩ = some v := by
  simp [World.cell?, h]
theorem box_lt {w : World} {b : Nat} {o : Obj} (h : w.heap[b]? = some o) : b < w.heap.size := (Array.getElem?_eq_some_iff.1 h).1

theorem own_of_row {w : World} {B g cap : Nat} {l : List Int} {G : Nat → Value} (h : w.rowIs g 3 cap G) (hg : ∀ j, j < l.length → G j = .int .i64 (l.getD j 0)) (h1 : l.length ≤ cap) (h2 : cap ≤ maxLen) (h3 : B ≤ g) : w.ownsRow B 3 1 (.slice (some ⟨g, 0, none⟩) l.length cap) l.length (l.map (Value.int .i64)) := by
  obtain ⟨cur, hc, hs, hf⟩ := h
  refine ⟨by simp, Or.inr ⟨g, cap, cur, rfl, h3, hc, h1, h2, by omega, ?_⟩⟩
  rw [Nat.mul_one]
  refine List.ext_getElem? fun j => ?_
  rw [List.getElem?_take, List.getElem?_map]
  by_cases hj : j < l.length
  · rw [if_pos hj, Array.getElem?_toList, hf j (by omega), hg j hj, List.getElem?_eq_getElem hj, getD_elem l 0 hj]
    rfl
  · rw [if_neg hj, List.getElem?_eq_none (by omega)]
    rfl
end Go.Proofs.Ytgjfmepbphfjoaa
