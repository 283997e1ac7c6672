/-
  The reference's MayAsk.
-/
import Derived.Test.YtfgjlfilmbobbaaJGc
namespace Go.Proofs.Ytfgjlfilmbobbaa
open Go.RowKit
set_option linter.unusedVariables false

theorem pv0 : (if decide (bits .andNot .i64 2 0 = 0) = true then (0 : Int) else 7) = 7 := by decide +kernel
theorem pv1 : (if decide (bits .andNot .i64 2 1 = 0) = true then (0 : Int) else 7) = 7 := by decide +kernel
theorem pv2 : (if decide (bits .andNot .i64 2 2 = 0) = true then (0 : Int) else 7) = 0 := by decide +kernel
theorem pv3 : (if decide (bits .andNot .i64 2 3 = 0) = true then (0 : Int) else 7) = 0 := by decide +kernel
theorem pv4 : (if decide (bits .andNot .i64 2 4 = 0) = true then (0 : Int) else 7) = 7 := by decide +kernel
theorem pv5 : (if decide (bits .andNot .i64 2 5 = 0) = true then (0 : Int) else 7) = 7 := by decide +kernel
theorem pv6 : (if decide (bits .andNot .i64 2 6 = 0) = true then (0 : Int) else 7) = 0 := by decide +kernel
theorem pv7 : (if decide (bits .andNot .i64 2 7 = 0) = true then (0 : Int) else 7) = 0 := by decide +kernel
theorem ints_twoF {w : World} {kb : Nat} {k l : Int} (h : w.cell? ⟨kb, 0, none⟩ = some (.int .i64 k)) (h' : w.cell? ⟨kb, 1, none⟩ = some (.int .i64 l)) : IntsAt w (some ⟨kb, 0, none⟩) [k, l] := fun i hi => by
  match i, hi with
  | 0, _ => exact ⟨kb, 0, rfl, h⟩
  | 1, _ => exact ⟨kb, 0, rfl, h'⟩
theorem rframed_two (a : Option Addr) (c kb : Nat) (L : List Fr) (k l : Int) (w : World) (hN : L.length ≤ 9223372036854775807) (hL : FrsAt w a L) (hk : w.cell? ⟨kb, 0, none⟩ = some (.int .i64 k)) (hl : w.cell? ⟨kb, 1, none⟩ = some (.int .i64 l)) :
    Calls Try.prog 15 #[.slice a L.length c, .slice (some ⟨kb, 0, none⟩) 2 2] w fun e w' => e = .returned (.int .i64 (heldsE L [k, l])) ∧ Below w.heap.size w w' :=
  rframed_any a (some ⟨kb, 0, none⟩) c 2 L [k, l] w hN (by simp) hL (ints_twoF hk hl)

set_option maxRecDepth 100000 in
set_option maxHeartbeats 4000000 in
theorem rmay_any (a : Option Addr) (c : Nat) (L : List Fr) (f t x : Int) (w : World) (hN : L.length ≤ 9223372036854775807) (hL : FrsAt w a L) :
    Calls Try.prog 8 #[.slice a L.length c, .int .i64 f, .int .i64 t, .int .i64 x] w fun e w' => e = .returned (.int .i64 (mayE L f t x)) ∧ Below w.heap.size w w' := by
  have D : Hid (∀ kb W, FrsAt W a L → W.cell? ⟨kb, 0, none⟩ = some (.int .i64 f) → W.cell? ⟨kb, 1, none⟩ = some (.int .i64 t) → _) := fun kb W h1 h2 h3 => rframed_two a c kb L f t W hN h1 h2 h3
  have HL : Hid (FrsAt w a L) := hL
  clear hL
  by_cases hE : heldsE L [f, t] = 0
  · obtain ⟨h1, h2, h3⟩ := helds_two_zero hE
    have R := fcheck_zero.1 h1
    rw [may_four h1 h2 h3]
    rw [hE] at D
    obtain ⟨p, rfl, hp, _⟩ := holds_zero h2
    obtain ⟨q, rfl, hq, _⟩ := holds_zero h3
    have DW : Hid (∀ W, FrsAt W a L → _) := fun W hW => rwithin_any a c L q p W R hW
    have hm := R.may hp
    have hp2 : (p : Int) < (L.length : Int) := by omega
    have hq2 : (q : Int) < (L.length : Int) := by omega
    have FEW := R.few
    clear h1 h2 h3 hE
    unfold askF
    rw [Int.toNat_natCast, Int.toNat_natCast]
    generalize inF L q p = r at *
    by_cases x1 : x = 1
    · subst x1
      simp only [show ¬ ¬ ((1 : Int) ≤ 1 ∧ (1 : Int) ≤ 5) by decide, if_false, if_true]
      by_cases h : (fr L p).o = (fr L q).o
      · rw [decide_eq_true h]
        simp only [if_true]
        go_enter Try.func8, Try.ntmps8
        go_wp2_with fail
        refine Calls.mono (D.out _ _ (HL.out.below (one_belowS _ _)) (by go_simp) (by go_simp)) ?_
        rintro e w1 ⟨rfl, hb1⟩
        have HB1 : Hid (Below w.heap.size w w1) := (one_belowS w _).trans (hb1.mono (by simp))
        clear hb1
        obtain ⟨b, o, ea, f0, f1, f2, f3, f4⟩ := (HL.out.below HB1.out) p hp
        obtain ⟨b', o', ea', t0, t1, t2, t3, t4⟩ := (HL.out.below HB1.out) q hq
        rw [ea] at ea'
        cases ea'
        subst ea
        rw [← h] at t1
        clear f0 f2 f3 f4 t0 t2 t3 t4
        generalize fr L p = y at *
        generalize fr L q = z at *
        obtain ⟨yp, yo, ym, yt, yg⟩ := y
        obtain ⟨zp, zo, zm, zt, zg⟩ := z
        dsimp only at f1 t1
        generalize L.length = n at *
        go_wp2_with fail
        go_big_quiet (fail)
        go_wp2_with fail
        go_ret
        exact ⟨rfl, belowN HB1.out _⟩
      · rw [decide_eq_false h]
        simp only [if_false, Bool.false_eq_true]
        go_enter Try.func8, Try.ntmps8
        go_wp2_with fail
        refine Calls.mono (D.out _ _ (HL.out.below (one_belowS _ _)) (by go_simp) (by go_simp)) ?_
        rintro e w1 ⟨rfl, hb1⟩
        have HB1 : Hid (Below w.heap.size w w1) := (one_belowS w _).trans (hb1.mono (by simp))
        clear hb1
        obtain ⟨b, o, ea, f0, f1, f2, f3, f4⟩ := (HL.out.below HB1.out) p hp
        obtain ⟨b', o', ea', t0, t1, t2, t3, t4⟩ := (HL.out.below HB1.out) q hq
        rw [ea] at ea'
        cases ea'
        subst ea
        have h1b : ((fr L p).o != (fr L q).o) = true := by simp [h]
        have h1c : decide ((fr L p).o = (fr L q).o) = false := decide_eq_false h
        clear f0 f2 f3 f4 t0 t2 t3 t4
        generalize fr L p = y at *
        generalize fr L q = z at *
        obtain ⟨yp, yo, ym, yt, yg⟩ := y
        obtain ⟨zp, zo, zm, zt, zg⟩ := z
        dsimp only at f1 t1 h h1b h1c
        generalize L.length = n at *
        go_wp2_with fail
        go_big_quiet (fail)
        go_wp2_with fail
        go_ret
        exact ⟨rfl, belowN HB1.out _⟩
    · by_cases x2 : x = 2
      · subst x2
        simp only [show ¬ ¬ ((1 : Int) ≤ 2 ∧ (2 : Int) ≤ 5) by decide, show ¬ ((2 : Int) = 1) by decide, if_false, if_true]
        go_enter Try.func8, Try.ntmps8
        go_wp2_with fail
        refine Calls.mono (D.out _ _ (HL.out.below (one_belowS _ _)) (by go_simp) (by go_simp)) ?_
        rintro e w1 ⟨rfl, hb1⟩
        have HB1 : Hid (Below w.heap.size w w1) := (one_belowS w _).trans (hb1.mono (by simp))
        clear hb1
        generalize L.length = n at *
        go_wp2_with fail
        go_ret
        exact ⟨rfl, HB1.out⟩
      · by_cases x3 : x = 3
        · subst x3
          simp only [show ¬ ¬ ((1 : Int) ≤ 3 ∧ (3 : Int) ≤ 5) by decide, show ¬ ((3 : Int) = 1) by decide, show ¬ ((3 : Int) = 2) by decide, if_false, if_true]
          obtain ⟨V, hV⟩ : ∃ V : Int, (if decide (bits .andNot .i64 2 (fr L p).m = 0) = true then (0 : Int) else 7) = V := ⟨_, rfl⟩
          rw [hV]
          have HV : Hid ((if decide (bits .andNot .i64 2 (fr L p).m = 0) = true then (0 : Int) else 7) = V) := hV
          clear hV
          go_enter Try.func8, Try.ntmps8
          go_wp2_with fail
          refine Calls.mono (D.out _ _ (HL.out.below (one_belowS _ _)) (by go_simp) (by go_simp)) ?_
          rintro e w1 ⟨rfl, hb1⟩
          have HB1 : Hid (Below w.heap.size w w1) := (one_belowS w _).trans (hb1.mono (by simp))
          clear hb1
          obtain ⟨b, o, ea, f0, f1, f2, f3, f4⟩ := (HL.out.below HB1.out) p hp
          subst ea
          clear f0 f1 f3 f4
          generalize fr L p = y at *
          obtain ⟨yp, yo, ym, yt, yg⟩ := y
          dsimp only at f2 hm HV
          generalize L.length = n at *
          obtain rfl | rfl | rfl | rfl | rfl | rfl | rfl | rfl : ym = 0 ∨ ym = 1 ∨ ym = 2 ∨ ym = 3 ∨ ym = 4 ∨ ym = 5 ∨ ym = 6 ∨ ym = 7 := by omega
          · have hv : V = 7 := HV.out.symm.trans pv0
            subst hv
            go_wp2_with fail
            go_ret
            exact ⟨rfl, HB1.out⟩
          · have hv : V = 7 := HV.out.symm.trans pv1
            subst hv
            go_wp2_with fail
            go_ret
            exact ⟨rfl, HB1.out⟩
          · have hv : V = 0 := HV.out.symm.trans pv2
            subst hv
            go_wp2_with fail
            go_ret
            exact ⟨rfl, HB1.out⟩
          · have hv : V = 0 := HV.out.symm.trans pv3
            subst hv
            go_wp2_with fail
            go_ret
            exact ⟨rfl, HB1.out⟩
          · have hv : V = 7 := HV.out.symm.trans pv4
            subst hv
            go_wp2_with fail
            go_ret
            exact ⟨rfl, HB1.out⟩
          · have hv : V = 7 := HV.out.symm.trans pv5
            subst hv
            go_wp2_with fail
            go_ret
            exact ⟨rfl, HB1.out⟩
          · have hv : V = 0 := HV.out.symm.trans pv6
            subst hv
            go_wp2_with fail
            go_ret
            exact ⟨rfl, HB1.out⟩
          · have hv : V = 0 := HV.out.symm.trans pv7
            subst hv
            go_wp2_with fail
            go_ret
            exact ⟨rfl, HB1.out⟩
        · by_cases x45 : x = 4 ∨ x = 5
          · have e1 : ¬ ¬ (1 ≤ x ∧ x ≤ 5) := by omega
            rw [if_neg e1, if_neg x1, if_neg x2, if_neg x3]
            have HX : Hid (x = 4 ∨ x = 5) := x45
            clear x1 x2 x3 e1 x45
            by_cases h : (q : Int) = (p : Int)
            · rw [decide_eq_true h]
              simp only [Bool.not_true, Bool.false_and, if_false, Bool.false_eq_true]
              have h2 : q = p := by omega
              subst h2
              rcases HX.out with rfl | rfl
              all_goals
                go_enter Try.func8, Try.ntmps8
                go_wp2_with fail
                refine Calls.mono (D.out _ _ (HL.out.below (one_belowS _ _)) (by go_simp) (by go_simp)) ?_
                rintro e w1 ⟨rfl, hb1⟩
                have HB1 : Hid (Below w.heap.size w w1) := (one_belowS w _).trans (hb1.mono (by simp))
                clear hb1
                generalize L.length = n at *
                go_wp2_with fail
                go_ret
                exact ⟨rfl, HB1.out⟩
            · rw [decide_eq_false h]
              simp only [Bool.not_false, Bool.true_and]
              have h2a : decide ((p : Int) = (q : Int)) = false := decide_eq_false (fun e => h e.symm)
              have h2b : ((p : Int) == (q : Int)) = false := by simp; omega
              have h2c : (p == q) = false := by simp; omega
              have h2d : decide (p = q) = false := decide_eq_false (by omega)
              cases r
              all_goals
                simp only [if_true, if_false, Bool.false_eq_true]
                rcases HX.out with rfl | rfl
                all_goals
                  go_enter Try.func8, Try.ntmps8
                  go_wp2_with fail
                  refine Calls.mono (D.out _ _ (HL.out.below (one_belowS _ _)) (by go_simp) (by go_simp)) ?_
                  rintro e w1 ⟨rfl, hb1⟩
                  have HB1 : Hid (Below w.heap.size w w1) := (one_belowS w _).trans (hb1.mono (by simp))
                  clear hb1
                  obtain ⟨n, hn⟩ : ∃ n, L.length = n := ⟨_, rfl⟩
                  rw [hn] at DW
                  simp only [hn]
                  clear hn
                  go_wp2_with fail
                  refine Calls.mono (DW.out _ (HL.out.below HB1.out)) ?_
                  rintro e w2 ⟨rfl, hw2⟩
                  have hw3 := hw2.symm
                  clear hw2
                  subst hw3
                  go_wp2_with fail
                  go_ret
                  exact ⟨rfl, HB1.out⟩
          · rw [if_pos (by omega)]
            have y1 : (x == 1) = false := by simp; omega
            have y2 : (x == 2) = false := by simp; omega
            have y3 : (x == 3) = false := by simp; omega
            have y4 : (x == 4) = false := by simp; omega
            have y5 : (x == 5) = false := by simp; omega
            have z1 : decide (x = 1) = false := decide_eq_false (by omega)
            have z2 : decide (x = 2) = false := decide_eq_false (by omega)
            have z3 : decide (x = 3) = false := decide_eq_false (by omega)
            have z4 : decide (x = 4) = false := decide_eq_false (by omega)
            have z5 : decide (x = 5) = false := decide_eq_false (by omega)
            go_enter Try.func8, Try.ntmps8
            go_wp2_with fail
            refine Calls.mono (D.out _ _ (HL.out.below (one_belowS _ _)) (by go_simp) (by go_simp)) ?_
            rintro e w1 ⟨rfl, hb1⟩
            have HB1 : Hid (Below w.heap.size w w1) := (one_belowS w _).trans (hb1.mono (by simp))
            clear hb1
            generalize L.length = n at *
            go_wp2_with fail
            go_ret
            exact ⟨rfl, HB1.out⟩
  · have e : mayE L f t x = heldsE L [f, t] := by unfold mayE; rw [if_pos hE]
    rw [e]
    clear e
    generalize heldsE L [f, t] = E at *
    have e2 : decide (E = 0) = false := decide_eq_false hE
    have e3 : (E == 0) = false := by simp [hE]
    go_enter Try.func8, Try.ntmps8
    go_wp2_with fail
    refine Calls.mono (D.out _ _ (HL.out.below (one_belowS _ _)) (by go_simp) (by go_simp)) ?_
    rintro e w1 ⟨rfl, hb1⟩
    have HB1 : Hid (Below w.heap.size w w1) := (one_belowS w _).trans (hb1.mono (by simp))
    clear hb1
    generalize L.length = n at *
    go_wp2_with fail
    go_ret
    exact ⟨rfl, HB1.out⟩
end Go.Proofs.Ytfgjlfilmbobbaa
