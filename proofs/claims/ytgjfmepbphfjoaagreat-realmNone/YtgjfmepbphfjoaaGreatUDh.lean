/-
  RealmNone at whatever arguments.
-/
import Derived.Test.YtgjfmepbphfjoaaGreatUDg
namespace Go.Proofs.YtgjfmepbphfjoaaGreat
open Go.RowKit
set_option linter.unusedVariables false

set_option maxRecDepth 100000 in
set_option maxHeartbeats 1000000 in
theorem realmNone_any (hN : NewAns) (hD : DoAns) (hC : RCheckAns) (A : RA) (R : Rl) (xa : Option Addr) (xc : Nat) (X : List Ac) (k : Int) (w : World) (hB : BigR R) (hL : RlAt w A R) (hXc : X.length ≤ xc) (hXm : xc ≤ 9223372036854775807) (hX : ActsAt w xa X) :
    Calls Tryz.prog 3 #[rlV A R, .slice xa X.length xc, .int .i64 k] w fun e w' => e = .returned (.bool true) ∧ Below w.heap.size w w' := by
  obtain ⟨a0, a1, a2, a3, c0, c1, c2, c3⟩ := A
  by_cases hR : rcheckE R = 0
  · exact realmNone_ok hN hD hC a0 a1 a2 a3 c0 c1 c2 c3 R xa xc X k w hR hL hXc hXm hX
  · have DO : Hid HousedOk := housed_ok hN hD
    have DC : Hid (∀ W, RlAt W ⟨a0, a1, a2, a3, c0, c1, c2, c3⟩ R → Calls Tryz.prog 7 #[.agg #[.slice a0 R.s.length c0, .slice a1 R.hs.length c1, .slice a2 R.i.length c2, .slice a3 R.t.length c3]] W fun e w' => e = .returned (.int .i64 (rcheckE R)) ∧ Below W.heap.size W w') := fun W hW => hC ⟨a0, a1, a2, a3, c0, c1, c2, c3⟩ R W hB hW
    have HL : Hid (RlAt w ⟨a0, a1, a2, a3, c0, c1, c2, c3⟩ R) := hL
    have e1 : decide (rcheckE R = 0) = false := decide_eq_false hR
    have e2 : (rcheckE R == 0) = false := beq_eq_false_iff_ne.2 hR
    clear hN hD hC hL hX hB
    dsimp only [rlV]
    generalize rcheckE R = E at *
    generalize X.length = len at *
    go_enter Tryz.func3, Tryz.ntmps3
    go_wp2_with fail
    refine Calls.mono (DO.out _) ?_
    rintro e w1 ⟨rfl, hb⟩
    have HB1 : Hid (Below w.heap.size w w1) := (one_belowS w _).trans (hb.mono (by simp))
    have hX0 : w1.heap[w.heap.size]? = some (.cells #[.slice a0 R.s.length c0, .slice a1 R.hs.length c1, .slice a2 R.i.length c2, .slice a3 R.t.length c3] 31 (0, 0)) := (hb.block _ (by simp)).trans (box4_new _ _ _ _ _ _)
    obtain ⟨l0, l1, l2, l3, fz, lt⟩ := box4_facts hX0
    clear hb hX0
    go_wp2_with fail
    refine Calls.mono (DC.out _ (HL.out.below HB1.out)) ?_
    rintro e w2 ⟨rfl, hb⟩
    have HB2 : Hid (Below w.heap.size w w2) := HB1.out.trans (hb.mono HB1.out.size)
    clear hb l0 l1 l2 l3 fz lt
    go_wp2_with fail
    refine Calls.mono (DO.out _) ?_
    rintro e w3 ⟨rfl, hb⟩
    have HB3 : Hid (Below w.heap.size w w3) := HB2.out.trans (hb.mono HB2.out.size)
    clear hb
    go_wp2_with fail
    go_ret
    exact ⟨rfl, HB3.out⟩
end Go.Proofs.YtgjfmepbphfjoaaGreat
