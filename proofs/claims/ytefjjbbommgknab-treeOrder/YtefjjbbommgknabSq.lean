/-
  The law TreeOrder, but for its closed fact: what it answers, of whatever store and hand.
-/
import Derived.Test.YtefjjbbommgknabSo
import Derived.Test.YtefjjbbommgknabSp
import Derived.Deep.RegionHeld3
namespace Go.Proofs.Ytefjjbbommgknab
open Go.RowKit

/-- The closed fact of the laws on trees, as it is met. -/
def GrownOk : Prop := ∀ w : World, Calls Try.prog 7 #[] w fun e w' => e = .returned (.bool true) ∧ Below w.heap.size w w'

theorem law_low {w w1 : World} {a : Option Addr} {n c : Nat} {p u : Int} (hb : Below (w.heap.size + 1 + 1) ((w.alloc (.cells #[.slice a n c] 24)).alloc (.cells #[.int .i64 p, .int .i64 u] 26)) w1) :
    w1.cell? ⟨w.heap.size, 0, none⟩ = some (.slice a n c) ∧ w1.cell? ⟨w.heap.size + 1, 0, none⟩ = some (.int .i64 p) ∧ w1.cell? ⟨w.heap.size + 1, 1, none⟩ = some (.int .i64 u) :=
  ⟨(hb.cell (by simp; omega)).trans (by go_simp), (hb.cell (by simp)).trans (by go_simp), (hb.cell (by simp)).trans (by go_simp)⟩

theorem two_below (w : World) (o1 o2 : Obj) : Below w.heap.size w ((w.alloc o1).alloc o2) := ((Below.refl _ _).alloc (Nat.le_refl _) _).alloc (by simp) _

set_option maxHeartbeats 1000000 in
theorem treeOrder_err (G : GrownOk) (a : Option Addr) (c : Nat) (S : List Nd) (p u : Int) (w : World) (hN : S.length ≤ 9223372036854775807) (hB : Big S) (hS : NdsAt w a S) (hE : tcheckE S [(p, u)] ≠ 0) :
    Calls Try.prog 4 #[.agg #[.slice a S.length c], .agg #[.int .i64 p, .int .i64 u]] w fun e w' => e = .returned (.bool true) ∧ Below w.heap.size w w' := by
  have d1 := fun (W : World) (hW : NdsAt W a S) => order_err a c S p u (tcheckE S [(p, u)]) W hN hB hW rfl hE
  have D1 : Hid _ := d1
  have HS : Hid (NdsAt w a S) := hS
  clear hS d1 hB
  generalize tcheckE S [(p, u)] = E at *
  have hz : (E == 0) = false := beq_eq_false_iff_ne.2 hE
  generalize S.length = n at *
  go_enter Try.func4, Try.ntmps4
  go_wp2_with (go_at_call 8; refine (D1.out _ (HS.out.below (two_below _ _ _))).mono ?_; rintro e w1 ⟨rfl, hb1⟩)
  refine (G _).mono ?_
  rintro e w2 ⟨rfl, hb2⟩
  go_wp2_with fail
  refine (G _).mono ?_
  rintro e w3 ⟨rfl, hb3⟩
  go_wp2
  go_ret
  have h1 : Below w.heap.size w w1 := (two_below _ _ _).trans (hb1.mono (by simp; omega))
  have h2 := h1.trans (hb2.mono h1.size)
  exact ⟨rfl, h2.trans (hb3.mono h2.size)⟩
end Go.Proofs.Ytefjjbbommgknab
