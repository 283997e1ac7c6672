/-
  The law TreeOrder, but for its closed fact: what it answers, of whatever store and hand.
-/
import Derived.Test.YtcohimljgjlkdabSo
import Derived.Test.YtcohimljgjlkdabSp
import Derived.Deep.RegionHeld3
namespace Go.Proofs.Ytcohimljgjlkdab
open Go.RowKit

set_option maxHeartbeats 400000 in
theorem used_any (a : Option Addr) (c : Nat) (S : List Nd) (k : Nat) (w : World) (hk : k < S.length) (hS : NdsAt w a S) :
    Calls Try.prog 18 #[.agg #[.slice a S.length c], .int .i64 k] w fun e w' => e = .returned (.bool (nd S k).u) ∧ w' = w.alloc (.cells #[.slice a S.length c] 24) := by
  obtain ⟨b, o, rfl, c0, _⟩ := hS k hk
  have hbw := World.block_lt_of_cell? _ _ c0
  have hk2 : (k : Int) < (S.length : Int) := by omega
  have h0 : decide (0 ≤ (k : Int)) = true := decide_eq_true (by omega)
  have h1 : decide ((k : Int) < (S.length : Int)) = true := decide_eq_true hk2
  clear hS
  generalize (nd S k).u = u at *
  generalize S.length = n at *
  go_enter Try.func18, Try.ntmps18
  go_wp2
  go_ret
  exact ⟨rfl, rfl⟩
set_option maxHeartbeats 1000000 in
theorem treeOrder_err (G : GrownOk) (a : Option Addr) (c : Nat) (S : List Nd) (p u : Int) (w : World) (hN : S.length ≤ 9223372036854775807) (hB : Big S) (hS : NdsAt w a S) (hE : tcheckE S [(p, u)] ≠ 0) :
    Calls Try.prog 4 #[.agg #[.slice a S.length c], .agg #[.int .i64 p, .int .i64 u]] w fun e w' => e = .returned (.bool true) ∧ Below w.heap.size w w' := by
  have d1 := fun (W : World) (hW : NdsAt W a S) => order_err a c S p u (tcheckE S [(p, u)]) W hN hB hW rfl hE
  have D1 : Hid _ := d1
  have HS : Hid (NdsAt w a S) := hS
  clear hS d1 hB
  generalize tcheckE S [(p, u)] = E at *
  have hz : (E == 0) = false := beq_eq_false_iff_ne.2 hE
  generalize S.length = n at *
  go_enter Try.func4, Try.ntmps4
  go_wp2_with (go_at_call 11; refine (D1.out _ (HS.out.below (two_below _ _ _))).mono ?_; rintro e w1 ⟨rfl, hb1⟩)
  refine (G _).mono ?_
  rintro e w2 ⟨rfl, hb2⟩
  go_wp2_with fail
  refine (G _).mono ?_
  rintro e w3 ⟨rfl, hb3⟩
  go_wp2
  go_ret
  have h1 : Below w.heap.size w w1 := (two_below _ _ _).trans (hb1.mono (by simp; omega))
  have h2 := h1.trans (hb2.mono h1.size)
  exact ⟨rfl, h2.trans (hb3.mono h2.size)⟩
end Go.Proofs.Ytcohimljgjlkdab
