/-
  Contract of Discard.
-/
import Derived.Test.YtbcgfhkhbbkhnaaJFd
namespace Go.Proofs.Ytbcgfhkhbbkhnaa
open Go.RowKit
set_option linter.unusedVariables false

/-- The first i of those that are in k are gone. -/
def disG (L : List Fr) (k : Int) (i : Nat) : List Fr := (List.range L.length).map fun j => if j < i then { fr L j with g := (fr L j).g || inF L j k } else fr L j
theorem disG_len (L : List Fr) (k : Int) (i : Nat) : (disG L k i).length = L.length := by unfold disG; simp
theorem disG_at {L : List Fr} {k : Int} {i j : Nat} (h : j < L.length) : fr (disG L k i) j = if j < i then { fr L j with g := (fr L j).g || inF L j k } else fr L j := by
  rw [fr_elem (by rw [disG_len]; exact h)]
  unfold disG
  simp
theorem disG_end (L : List Fr) (k : Int) : disG L k L.length = disF L k := by
  refine fr_ext (by rw [disG_len, dis_len]) (fun i hi => ?_)
  rw [disG_len] at hi
  rw [disG_at hi, if_pos hi, dis_at hi]
def RowG (w : World) (g n : Nat) (L : List Fr) : Prop := ∃ F, w.rowIs g 29 (n * 5) F ∧ ∀ m, m < n * 5 → F m = frF L m
theorem RowG.start {w : World} {g : Nat} {L : List Fr} {k : Int} (h : RowG w g L.length L) : RowG w g L.length (disG L k 0) := by
  obtain ⟨F, h1, h2⟩ := h
  exact ⟨F, h1, fun m hm => (h2 m hm).trans (frF_congr (by rw [disG_at (by omega), if_neg (by omega)]))⟩
theorem RowG.no {w : World} {g i : Nat} {L : List Fr} {k : Int} (h : RowG w g L.length (disG L k i)) (hi : i < L.length) (hin : inF L i k = false) : RowG w g L.length (disG L k (i + 1)) := by
  obtain ⟨F, h1, h2⟩ := h
  refine ⟨F, h1, fun m hm => (h2 m hm).trans (frF_congr ?_)⟩
  rw [disG_at (by omega), disG_at (by omega)]
  by_cases e : m / 5 < i
  · rw [if_pos e, if_pos (by omega)]
  · by_cases e2 : m / 5 = i
    · rw [e2, if_neg (by omega), if_pos (by omega), hin, Bool.or_false]
    · rw [if_neg e, if_neg (by omega)]
theorem RowG.yes {w : World} {g i : Nat} {L : List Fr} {k : Int} (h : RowG w g L.length (disG L k i)) (hi : i < L.length) (hin : inF L i k = true) : RowG (w.setCell ⟨g, i * 5 + 4, none⟩ (.bool true)) g L.length (disG L k (i + 1)) := by
  obtain ⟨F, h1, h2⟩ := h
  refine ⟨_, h1.set (i * 5 + 4) (.bool true), fun m hm => ?_⟩
  by_cases e : m = i * 5 + 4
  · subst e
    rw [if_pos rfl, frF_at _ _ 4 (by omega), disG_at hi, if_pos (by omega), hin, Bool.or_true]
    rfl
  · rw [if_neg e, h2 m hm]
    unfold frF
    rw [disG_at (by omega), disG_at (by omega)]
    by_cases e1 : m / 5 < i
    · rw [if_pos e1, if_pos (by omega)]
    · by_cases e2 : m / 5 = i
      · rw [e2, if_neg (by omega), if_pos (by omega)]
        have e3 : m % 5 = 0 ∨ m % 5 = 1 ∨ m % 5 = 2 ∨ m % 5 = 3 := by omega
        rcases e3 with e3 | e3 | e3 | e3 <;> rw [e3] <;> rfl
      · rw [if_neg e1, if_neg (by omega)]
theorem RowG.kept {w w' : World} {g n : Nat} {L : List Fr} (h : RowG w g n L) (e : w'.heap[g]? = w.heap[g]?) : RowG w' g n L := by
  obtain ⟨F, h1, h2⟩ := h
  exact ⟨F, h1.of_block e, h2⟩

/-- What is answered. -/
def resD (L : List Fr) (k : Int) : List Fr := if heldE L k = 0 then disF L k else []
def resL (L : List Fr) (k : Int) : Int := if heldE L k = 0 then (lenF L k : Nat) else 0
end Go.Proofs.Ytbcgfhkhbbkhnaa
