/-
  The contract of tree.Order.
-/
import Derived.Test.YthnpbdcoiepemacSl
import Derived.Laws.EntriesVeiled
namespace Go.Proofs.Ythnpbdcoiepemac
open Go.RowKit

theorem order_low {w w1 : World} {a : Option Addr} {n c : Nat} {p u : Int} {o3 : Obj} (hb : Below (w.heap.size + 1 + 1 + 1) (((w.alloc (.cells #[.slice a n c] 24)).alloc (.cells #[.int .i64 p, .int .i64 u] 26)).alloc o3) w1) :
    w1.cell? ⟨w.heap.size, 0, none⟩ = some (.slice a n c) ∧ w1.cell? ⟨w.heap.size + 1, 0, none⟩ = some (.int .i64 p) ∧ w1.cell? ⟨w.heap.size + 1, 1, none⟩ = some (.int .i64 u) :=
  ⟨(hb.cell (by simp; omega)).trans (by go_simp), (hb.cell (by simp)).trans (by go_simp), (hb.cell (by simp)).trans (by go_simp)⟩

theorem two_more {w1 : World} {p : Addr} {v : Value} (h : w1.cell? p = some v) (o1 o2 : Obj) : ((w1.alloc o1).alloc o2).cell? p = some v :=
  ((((Below.refl _ _).alloc (Nat.le_refl _) o1).alloc (by simp) o2).cell (World.block_lt_of_cell? _ _ h)).trans h

theorem hands_one (W : World) (b : Nat) (p u : Int) (h1 : W.cell? ⟨b, 0, none⟩ = some (.int .i64 p)) (h2 : W.cell? ⟨b, 1, none⟩ = some (.int .i64 u)) : HandsAt W (some ⟨b, 0, none⟩) [(p, u)] := fun i hi => by
  have : i = 0 := by simpa using hi
  subst this
  exact ⟨b, 0, rfl, by simpa using h1, by simpa using h2⟩

end Go.Proofs.Ythnpbdcoiepemac
