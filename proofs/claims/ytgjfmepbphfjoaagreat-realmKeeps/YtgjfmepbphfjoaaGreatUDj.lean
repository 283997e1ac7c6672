/-
  RealmKeeps at whatever arguments.
-/
import Derived.Test.YtgjfmepbphfjoaaGreatUDi
namespace Go.Proofs.YtgjfmepbphfjoaaGreat
open Go.RowKit
set_option linter.unusedVariables false

set_option maxRecDepth 100000 in
set_option maxHeartbeats 1000000 in
theorem realmKeeps_any (hN : NewAns) (hD : DoAns) (hC : RCheckAns) (A : RA) (R : Rl) (x : Ac) (w : World) (hB : BigR R) (hL : RlAt w A R) :
    Calls Tryz.prog 5 #[rlV A R, acV x] w fun e w' => e = .returned (.bool true) ∧ Below w.heap.size w w' := by
  obtain ⟨a0, a1, a2, a3, c0, c1, c2, c3⟩ := A
  obtain ⟨xk, xq, xr, xs, xn⟩ := x
  by_cases hE : (doF R ⟨xk, xq, xr, xs, xn⟩).e = 0
  · exact realmKeeps_ok hN hD hC a0 a1 a2 a3 c0 c1 c2 c3 R xk xq xr xs xn w hE hL
  · have DO : Hid HousedOk := housed_ok hN hD
    have DD := do_at hD hB (do_eq (x := ⟨xk, xq, xr, xs, xn⟩) rfl) a0 a1 a2 a3 c0 c1 c2 c3
    dsimp only at DD
    have DDH : Hid _ := DD
    have HL : Hid (RlAt w ⟨a0, a1, a2, a3, c0, c1, c2, c3⟩ R) := hL
    dsimp only [rlV, acV]
    generalize (doF R ⟨xk, xq, xr, xs, xn⟩).e = E at *
    generalize (doF R ⟨xk, xq, xr, xs, xn⟩).r = P at *
    generalize (doF R ⟨xk, xq, xr, xs, xn⟩).o = told at *
    have e1 : decide (E = 0) = false := decide_eq_false hE
    have e2 : (E == 0) = false := beq_eq_false_iff_ne.2 hE
    have e3 : (E != 0) = true := by simp [hE]
    clear hN hD hC hL hB DD
    go_enter Tryz.func5, Tryz.ntmps5
    go_wp2_with fail
    refine Calls.mono (DDH.out _ (HL.out.below (two_belowS _ _ _))) ?_
    rintro e w1 ⟨y0, y1, y2, y3, z0, z1, z2, z3, rfl, hb, hY⟩
    have HB1 : Hid (Below w.heap.size w w1) := (two_belowS w _ _).trans (hb.mono (by simp; omega))
    clear hb hY DDH
    go_wp2_with fail
    refine Calls.mono (DO.out _) ?_
    rintro e w2 ⟨rfl, hb⟩
    have HB2 : Hid (Below w.heap.size w w2) := HB1.out.trans (((one_belowS w1 _).trans (hb.mono (by simp))).mono HB1.out.size)
    clear hb
    go_wp2_with fail
    refine Calls.mono (DO.out _) ?_
    rintro e w3 ⟨rfl, hb⟩
    have HB3 : Hid (Below w.heap.size w w3) := HB2.out.trans (hb.mono HB2.out.size)
    clear hb
    go_wp2_with fail
    go_ret
    exact ⟨rfl, HB3.out⟩
end Go.Proofs.YtgjfmepbphfjoaaGreat
