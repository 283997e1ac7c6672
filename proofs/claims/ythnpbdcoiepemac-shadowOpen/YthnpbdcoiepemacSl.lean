/-
  The contract of tree.Order's closure: it appends a node's place, and all that stand under it, to a slice of the call's own.
-/
import Derived.Test.YthnpbdcoiepemacSk
import Derived.Laws.AppendOwn
namespace Go.Proofs.Ythnpbdcoiepemac
open Go.RowKit

/-- A node and all under it, each ahead of its children, down to f steps. -/
def orderF (S : List Nd) : Nat → Nat → List Int
  | 0, p => [(p : Int)]
  | f + 1, p => (p : Int) :: (nd S p).ks.flatMap fun k => orderF S f k.toNat

/-- No way down from p is longer than f; who is named on it is a place. -/
def Deep (S : List Nd) : Nat → Nat → Prop
  | 0, p => (nd S p).ks = []
  | f + 1, p => ∀ k ∈ (nd S p).ks, (0 ≤ k ∧ k < S.length) ∧ Deep S f k.toNat

/-- What is appended to so far. -/
def OrdI (W : World) (bo : Nat) (l : List Int) (w1 : World) : Prop :=
  Off (fun k => k = bo) W w1 ∧ ∃ v, w1.cell? ⟨bo, 0, none⟩ = some v ∧ w1.frozen? ⟨bo, 0, none⟩ = false ∧ w1.ownsRow W.heap.size 3 1 v l.length (l.map (Value.int .i64))

theorem grownBy_setCell (w : World) (a : Addr) (v : Value) : w.grownBy (w.setCell a v) (some a.block) :=
  ⟨rfl, rfl, rfl, by simp [World.setCell], fun k _ hne => Below.heap_setCell _ _ _ _ (fun e => hne (by rw [e]))⟩

theorem OrdI.step {W w1 w2 : World} {bo : Nat} {l : List Int} {p : Int} {v v' : Value} (hbo : bo < W.heap.size) (hO : Off (fun k => k = bo) W w1) (hc : w1.cell? ⟨bo, 0, none⟩ = some v) (hf : w1.frozen? ⟨bo, 0, none⟩ = false)
    (hown : w1.ownsRow W.heap.size 3 1 v l.length (l.map (Value.int .i64))) (o1 : Obj)
    (hown' : w2.ownsRow W.heap.size 3 1 v' (l.length + 1) (l.map (Value.int .i64) ++ [.int .i64 p])) (hg : (w1.alloc o1).grownBy w2 v.ownBlock) :
    w2.cell? ⟨bo, 0, none⟩ = some v ∧ w2.frozen? ⟨bo, 0, none⟩ = false ∧ OrdI W bo (l ++ [p]) (w2.setCell ⟨bo, 0, none⟩ v') := by
  have hrow : ∀ k, v.ownBlock = some k → W.heap.size ≤ k := fun k hk => (hown.lt k hk).1
  have hbw : bo < w1.heap.size := Nat.lt_of_lt_of_le hbo hO.size
  have hblk : ∀ k, k < W.heap.size → w2.heap[k]? = w1.heap[k]? := fun k hk =>
    (hg.block k (by have := hO.size; simp; omega) (fun e => by have := hrow k e.symm; omega)).trans (Below.heap_alloc _ _ _ (by have := hO.size; omega))
  have hc2 : w2.cell? ⟨bo, 0, none⟩ = some v := (World.cell?_of_block (hblk bo hbo)).trans hc
  refine ⟨hc2, (World.frozen?_of_block (hblk bo hbo)).trans hf, ?_, v', World.cell?_setCell_same _ _ _ hc2, ?_, ?_⟩
  · refine ⟨?_, ?_, ?_, ?_, fun k hk hx => ?_⟩
    · exact hg.os.trans hO.os
    · exact hg.tape.trans hO.tape
    · exact hg.output.trans hO.output
    · have := hg.size; have h2 := hO.size; simp [World.setCell] at *; omega
    · rw [Below.heap_setCell _ _ _ _ (by exact hx), hblk k hk]; exact hO.block k hk hx
  · rw [World.frozen?_setCell]; exact (World.frozen?_of_block (hblk bo hbo)).trans hf
  · have h3 := hown'.kept (grownBy_setCell w2 ⟨bo, 0, none⟩ v') (by
      cases hb : v'.ownBlock with
      | none => exact Or.inl rfl
      | some k => right; intro e; have := (hown'.lt k hb).1; simp at e; omega)
    simpa using h3

theorem OrdI.below {W w1 w2 : World} {bo : Nat} {l : List Int} (h : OrdI W bo l w1) (hbo : bo < W.heap.size) (hb : Below w1.heap.size w1 w2) : OrdI W bo l w2 := by
  obtain ⟨hO, v, hc, hf, hown⟩ := h
  have hbw : bo < w1.heap.size := Nat.lt_of_lt_of_le hbo hO.size
  exact ⟨hO.trans (Off.of_below hb), v, (hb.cell (by exact hbw)).trans hc, (hb.frozen (by exact hbw)).trans hf, hown.kept (row := none) ⟨hb.os, hb.tape, hb.output, hb.size, fun k hk _ => hb.block k hk⟩ (by
    cases hv : v.ownBlock with
    | none => exact Or.inl rfl
    | some k => exact Or.inr (fun e => by cases e))⟩

theorem flat_take (ks : List Int) (sub : Int → List Int) (q : Nat) (hq : q < ks.length) : (ks.take (q + 1)).flatMap sub = (ks.take q).flatMap sub ++ sub (ks.getD q 0) := by
  rw [List.take_succ_eq_append_getElem hq, List.flatMap_append, getD_elem ks 0 hq]
  simp
theorem flat_take_le (ks : List Int) (sub : Int → List Int) (q : Nat) : ((ks.take q).flatMap sub).length ≤ (ks.flatMap sub).length := by
  have h := List.take_append_drop q ks
  have : (ks.flatMap sub).length = ((ks.take q).flatMap sub).length + ((ks.drop q).flatMap sub).length := by
    rw [← List.length_append, ← List.flatMap_append, h]
  omega

end Go.Proofs.Ythnpbdcoiepemac
