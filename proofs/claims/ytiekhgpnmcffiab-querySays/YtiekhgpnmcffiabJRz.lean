/-
  Cells of boxes that were made, and what stays of them: small facts for the walks.
-/
import Derived.Test.YtiekhgpnmcffiabJTe
namespace Go.Proofs.Ytiekhgpnmcffiab
open Go.RowKit

theorem alloc_cell (W : World) (xs : Array Value) (t j : Nat) {v : Value} (h : xs[j]? = some v) : (W.alloc (.cells xs t)).cell? ⟨W.heap.size, j, none⟩ = some v := by
  have e := heap_alloc_new W (.cells xs t)
  simp only [World.cell?, e]
  exact h
theorem keepC {W W' : World} {b o : Nat} {v : Value} (h : W.cell? ⟨b, o, none⟩ = some v) (hb : Below W.heap.size W W') : W'.cell? ⟨b, o, none⟩ = some v := (hb.cell (World.block_lt_of_cell? _ _ h)).trans h
theorem one_belowS (w : World) (o1 : Obj) : Below w.heap.size w (w.alloc o1) := (Below.refl _ _).alloc (Nat.le_refl _) _
theorem two_belowS (w : World) (o1 o2 : Obj) : Below w.heap.size w ((w.alloc o1).alloc o2) := ((Below.refl _ _).alloc (Nat.le_refl _) _).alloc (by simp) _
theorem alloc_cell1 (W : World) (xs : Array Value) (t j : Nat) {v : Value} (o2 : Obj) (h : xs[j]? = some v) : ((W.alloc (.cells xs t)).alloc o2).cell? ⟨W.heap.size, j, none⟩ = some v := keepC (alloc_cell W xs t j h) (one_belowS _ _)
theorem alloc_cell2 (W : World) (xs : Array Value) (t j : Nat) {v : Value} (o1 : Obj) (h : xs[j]? = some v) : ((W.alloc o1).alloc (.cells xs t)).cell? ⟨W.heap.size + 1, j, none⟩ = some v := by
  have := alloc_cell (W.alloc o1) xs t j h
  simpa using this
end Go.Proofs.Ytiekhgpnmcffiab
