/-
  Rows of a call's own, and boxes: what is known of them.
-/
import Derived.Test.YtcohimljgjlkdabZa
import Derived.Test.YtcohimljgjlkdabUe
namespace Go.Proofs.Ytcohimljgjlkdab
open Go.RowKit

theorem box_set {w : World} {b t : Nat} {v v' : Value} (h : w.heap[b]? = some (.cells #[v] t (0, 0))) : (w.setCell ⟨b, 0, none⟩ v').heap[b]? = some (.cells #[v'] t (0, 0)) := by
  show (w.heap.modify b _)[b]? = _
  rw [Array.getElem?_modify, if_pos rfl, h]
  rfl

theorem box_frozen {w : World} {b t o : Nat} {v : Value} (h : w.heap[b]? = some (.cells #[v] t (0, 0))) : w.frozen? ⟨b, o, none⟩ = false := by
  simp [World.frozen?, h]

theorem ownsRow_base {w : World} {B B' e size n : Nat} {v : Value} {xs : List Value} (h : w.ownsRow B e size v n xs) (hB : B' ≤ B) : w.ownsRow B' e size v n xs := by
  obtain ⟨h1, h2⟩ := h
  refine ⟨h1, ?_⟩
  rcases h2 with h2 | ⟨g, cap, cur, h3, h4, h5⟩
  · exact Or.inl h2
  · exact Or.inr ⟨g, cap, cur, h3, Nat.le_trans hB h4, h5⟩

theorem infoBool : (Try.prog.info? 4).map (fun i => (i.zero, i.size, i.bytes)) = some (some (.bool false), 1, 1) := by kernel_rfl

theorem makeBools (n : Nat) (hn : n ≤ 24) (w : World) : (Instr.makeSlice 98 (.int .i64 (n : Int)) (.int .i64 (n : Int))).run Try.prog w = .ok (.slice (some ⟨w.heap.size, 0, none⟩) n n) (w.alloc (.cells (madeCells #[.bool false] n) 4)) :=
  run_make_row' (P := Try.prog) 98 4 (.bool false) 1 Try.underlying98 infoBool rfl .i64 .i64 n (by omega) (by omega) w

theorem row_of_own {w : World} {B g n cap : Nat} {ks : List Int} (h : w.ownsRow B 3 1 (.slice (some ⟨g, 0, none⟩) n cap) n (ks.map (Value.int .i64))) : B ≤ g ∧ n ≤ cap ∧ cap ≤ maxLen ∧ ks.length = n ∧ ∃ G, w.rowIs g 3 cap G ∧ ∀ j, j < n → G j = .int .i64 (ks.getD j 0) := by
  obtain ⟨hl, h⟩ := h
  rw [List.length_map, Nat.mul_one] at hl
  rcases h with ⟨h, _⟩ | ⟨g', cap', cur, e, h1, h2, h3, h4, h5, h6⟩
  · cases h
  · cases e
    rw [Nat.mul_one] at h5 h6
    refine ⟨h1, h3, h4, hl, fun j => cur[j]?.getD undef, ⟨cur, h2, h5, fun i hi => ?_⟩, fun j hj => ?_⟩
    · show cur[i]? = some (cur[i]?.getD undef)
      rw [Array.getElem?_eq_getElem (by omega)]
      rfl
    · have h7 : (cur.toList.take n)[j]? = (ks.map (Value.int .i64))[j]? := by rw [h6]
      rw [List.getElem?_take, if_pos hj, List.getElem?_map, List.getElem?_eq_getElem (l := ks) (by omega)] at h7
      show cur[j]?.getD undef = _
      rw [← Array.getElem?_toList, h7, getD_elem ks 0 (by omega)]
      rfl

theorem own_of_row {w : World} {B g cap : Nat} {l : List Int} {G : Nat → Value} (h : w.rowIs g 3 cap G) (hg : ∀ j, j < l.length → G j = .int .i64 (l.getD j 0)) (h1 : l.length ≤ cap) (h2 : cap ≤ maxLen) (h3 : B ≤ g) : w.ownsRow B 3 1 (.slice (some ⟨g, 0, none⟩) l.length cap) l.length (l.map (Value.int .i64)) := by
  obtain ⟨cur, hc, hs, hf⟩ := h
  refine ⟨by simp, Or.inr ⟨g, cap, cur, rfl, h3, hc, h1, h2, by omega, ?_⟩⟩
  rw [Nat.mul_one]
  refine List.ext_getElem? fun j => ?_
  rw [List.getElem?_take, List.getElem?_map]
  by_cases hj : j < l.length
  · rw [if_pos hj, Array.getElem?_toList, hf j (by omega), hg j hj, List.getElem?_eq_getElem hj, getD_elem l 0 hj]
    rfl
  · rw [if_neg hj, List.getElem?_eq_none (by omega)]
    rfl

theorem own_slice {w : World} {B : Nat} {v : Value} {ks : List Int} (h : w.ownsRow B 3 1 v ks.length (ks.map (Value.int .i64))) : ∃ pa pc, v = .slice pa ks.length pc ∧ IntsAt w pa ks ∧ (∀ k, v.ownBlock = some k → B ≤ k ∧ k < w.heap.size) := by
  have hlt := h.lt
  rcases h.2 with ⟨e, e0⟩ | ⟨g, cap, cur, e, _⟩
  · have hk : ks = [] := List.length_eq_zero_iff.1 e0
    subst hk
    exact ⟨none, 0, e, fun i hi => absurd hi (Nat.not_lt_zero _), hlt⟩
  · subst e
    obtain ⟨_, h2, _, _, G, hG, hGk⟩ := row_of_own h
    exact ⟨some ⟨g, 0, none⟩, cap, rfl, ints_of_row hG h2 hGk, hlt⟩

end Go.Proofs.Ytcohimljgjlkdab
