/-
  The reference's PortShut, PortPassed.
-/
import Derived.Test.YtjncembcbfemfaaJPe
namespace Go.Proofs.Ytjncembcbfemfaa
open Go.RowKit Go.ChangeShapes Go.WideShapes
set_option linter.unusedVariables false

theorem row_some {w : World} {B t n size : Nat} {v : Value} {xs : List Value} (h : w.ownsRow B t size v n xs) (hn : 0 < n) : ∃ g cap, v = .slice (some ⟨g, 0, none⟩) n cap ∧ B ≤ g ∧ g < w.heap.size := by
  rcases h.2 with ⟨e, e0⟩ | ⟨g, cap, cur, e, _⟩
  · omega
  · exact ⟨g, cap, e, (h.lt g (by rw [e]; rfl)).1, (h.lt g (by rw [e]; rfl)).2⟩
theorem thenE_zero (H : Int) : thenE H 0 = H := by
  unfold thenE
  by_cases h : H = 0
  · rw [if_neg (not_not_intro h), h]
  · rw [if_pos h]
/-- A field of a port of the row is set. -/
theorem row_put {w : World} {B g n cap : Nat} {L : List Pt} {K : Nat → Value} (h : w.ownsRow B 42 5 (.slice (some ⟨g, 0, none⟩) n cap) n (pcells L K)) {k f : Nat} {u v : Value} {x : Pt} (hk : k < L.length) (hf : f < 5) (hx : pcell x v = (pcell (pt L k) (K k)).set f u) :
    (w.setCell ⟨g, k * 5 + f, none⟩ u).ownsRow B 42 5 (.slice (some ⟨g, 0, none⟩) n cap) n (pcells (L.set k x) (fun i => if i = k then v else K i)) := by
  have := (h.stored (k * 5 + f) u).1
  rwa [pcells_set hk hf hx] at this
theorem row_cells {w : World} {B g n cap : Nat} {L : List Pt} {K : Nat → Value} (h : w.ownsRow B 42 5 (.slice (some ⟨g, 0, none⟩) n cap) n (pcells L K)) (hn : L.length = n) {k f : Nat} (hk : k < n) (hf : f < 5) : w.cell? ⟨g, k * 5 + f, none⟩ = (pcell (pt L k) (K k))[f]? := by
  rw [h.cellAt (k * 5 + f) (by omega), pcells_at (by omega) hf]
theorem set_lone {L : List Pt} {k : Nat} {x : Pt} (hk : k < L.length) : pt (L.set k x) k = x := by rw [pt_set hk, if_pos rfl]

/-- What is wrong with whom it is passed on to. -/
def passE2 (Fr to' th : Int) : Int := if ¬ (0 ≤ to' ∧ to' < Fr) then 4 else if ¬ (0 ≤ th ∧ th ≤ 1000) then 2 else 0
theorem pass_then (L : List Pt) (Fr k o t to' th : Int) : passE L Fr k o t to' th = thenE (heldPE L Fr k o t) (passE2 Fr to' th) := rfl

theorem four_belowP (w : World) (o1 o2 o3 o4 : Obj) : Below w.heap.size w ((((w.alloc o1).alloc o2).alloc o3).alloc o4) := (((one_belowS w o1).alloc (by simp) o2).alloc (by simp; omega) o3).alloc (by simp; omega) o4

end Go.Proofs.Ytjncembcbfemfaa
