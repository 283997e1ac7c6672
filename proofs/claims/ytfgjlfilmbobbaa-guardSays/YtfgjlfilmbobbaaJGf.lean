/-
  GuardSays at whatever arguments.
-/
import Derived.Test.YtfgjlfilmbobbaaJGd
import Derived.Test.YtfgjlfilmbobbaaJGe
namespace Go.Proofs.Ytfgjlfilmbobbaa
open Go.RowKit
set_option linter.unusedVariables false

set_option maxRecDepth 100000 in
set_option maxHeartbeats 2000000 in
theorem guardSays_any (a : Option Addr) (c : Nat) (L : List Fr) (f t x : Int) (w : World) (hN : L.length ≤ 9223372036854775807) (hL : FrsAt w a L) (hx : (Lit.int .i64 x).wf = true) :
    Calls Try.prog 3 #[.slice a L.length c, .int .i64 f, .int .i64 t, .int .i64 x] w fun e w' => e = .returned (.bool true) ∧ Below w.heap.size w w' := by
  have HL : Hid (FrsAt w a L) := hL
  have DG : Hid GuardedOk := guarded_ok
  have D : Hid (∀ W, FrsAt W a L → _) := fun W hW => may_any a c L f t x W hx hN hW
  have RD : Hid (∀ W, FrsAt W a L → _) := fun W hW => rmay_any a c L f t x W hN hW
  clear hL
  generalize mayE L f t x = E at *
  generalize L.length = n at *
  go_enter Try.func3, Try.ntmps3
  go_wp2_with fail
  refine Calls.mono (DG.out _) ?_
  rintro e w1 ⟨rfl, hb⟩
  have HB1 : Hid (Below w.heap.size w w1) := hb
  clear hb
  go_wp2_with fail
  refine Calls.mono (D.out _ (HL.out.below HB1.out)) ?_
  rintro e w2 ⟨rfl, hb⟩
  have HB2 : Hid (Below w.heap.size w w2) := HB1.out.trans (hb.mono HB1.out.size)
  clear hb
  go_wp2_with fail
  refine Calls.mono (RD.out _ (HL.out.below HB2.out)) ?_
  rintro e w3 ⟨rfl, hb⟩
  have HB3 : Hid (Below w.heap.size w w3) := HB2.out.trans (hb.mono HB2.out.size)
  clear hb
  go_wp2_with fail
  go_ret
  exact ⟨rfl, HB3.out⟩
end Go.Proofs.Ytfgjlfilmbobbaa
