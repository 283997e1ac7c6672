/-
  GuardOne at whatever arguments.
-/
import Derived.Test.YtfgjlfilmbobbaaRGd
namespace Go.Proofs.Ytfgjlfilmbobbaa
open Go.RowKit
set_option linter.unusedVariables false

theorem one_touch {L : List Fr} {f t : Int} (h : fcheckE L = 0) (h2 : fholdsE L f = 0) (h3 : fholdsE L t = 0) : mayE L f t 1 = mayE L t f 1 := by
  rw [may_four h h2 h3, may_four h h3 h2]
  unfold askF
  simp only [if_true, eq_comm]
theorem one_length {L : List Fr} {f t : Int} (h : fcheckE L = 0) (h2 : fholdsE L f = 0) (h3 : fholdsE L t = 0) : mayE L f t 2 = 0 := by
  rw [may_four h h2 h3]
  unfold askF
  simp
theorem one_self {L : List Fr} {f : Int} (h : fcheckE L = 0) (h2 : fholdsE L f = 0) : mayE L f f 1 = 0 := by
  rw [may_four h h2 h2]
  unfold askF
  simp
theorem close_in {L : List Fr} {f t x : Int} (h : mayE L f t x = 0) (hx : x = 4 ∨ x = 5) : t ≠ f ∧ inF L t f = true := by
  obtain ⟨_, _, _, _, h5⟩ := may_zero h
  unfold askF at h5
  rw [if_neg (by omega), if_neg (by omega), if_neg (by omega)] at h5
  rw [Bool.and_eq_true] at h5
  refine ⟨?_, h5.2⟩
  intro e
  rw [decide_eq_true e] at h5
  exact absurd h5.1 (by decide)
theorem close_one {L : List Fr} {f t : Int} (h : mayE L f t 4 = 0) : mayE L t f 4 ≠ 0 := by
  intro h2
  have R := fcheck_zero.1 (may_zero h).1
  obtain ⟨a1, a2⟩ := close_in h (Or.inl rfl)
  obtain ⟨b1, b2⟩ := close_in h2 (Or.inl rfl)
  have := in_le R a2
  have := in_le R b2
  omega
theorem ask_three (L : List Fr) (f t : Int) : askF L f t 3 = decide (bits .andNot .i64 2 (fr L f.toNat).m = 0) := by
  unfold askF
  simp
theorem ask_four (L : List Fr) (f t : Int) : askF L f t 4 = ((!decide (t = f)) && inF L t f) := by
  unfold askF
  simp
/-- Who is in one that may not post may not. -/
theorem post_down {L : List Fr} {f t : Int} (h : fcheckE L = 0) (h2 : fholdsE L f = 0) (h3 : fholdsE L t = 0) (hin : inF L t f = true) (hs : mayE L f f 3 ≠ 0) : mayE L t f 3 = 7 := by
  have R := fcheck_zero.1 h
  obtain ⟨p, rfl, hp, _⟩ := holds_zero h2
  obtain ⟨q, rfl, hq, _⟩ := holds_zero h3
  rw [may_four h h2 h2, if_neg (by decide)] at hs
  rw [may_four h h3 h2, if_neg (by decide)]
  rw [ask_three, Int.toNat_natCast] at hs ⊢
  have hw := with_may R hp L.length q hq (by unfold inF at hin; exact hin)
  rw [if_neg]
  intro e
  have e := of_decide_eq_true e
  apply hs
  rw [if_pos]
  exact decide_eq_true (an_trans (by omega) (by omega) (R.may hq).1 (R.may hq).2 (R.may hp).1 (R.may hp).2 e hw)

set_option maxRecDepth 100000 in
set_option maxHeartbeats 4000000 in
theorem guardOne_any (a : Option Addr) (c : Nat) (L : List Fr) (f t : Int) (w : World) (hN : L.length ≤ 9223372036854775807) (hL : FrsAt w a L) :
    Calls Try.prog 4 #[.slice a L.length c, .int .i64 f, .int .i64 t] w fun e w' => e = .returned (.bool true) ∧ Below w.heap.size w w' := by
  have HL : Hid (FrsAt w a L) := hL
  have DG : Hid GuardedOk := guarded_ok
  have DC : Hid (∀ W, FrsAt W a L → _) := fun W hW => fcheck_any a c L W hN hW
  have DF : Hid (∀ W, FrsAt W a L → _) := fun W hW => fholds_any a c L f W hN hW
  have DT : Hid (∀ W, FrsAt W a L → _) := fun W hW => fholds_any a c L t W hN hW
  have DW : Hid (∀ W, FrsAt W a L → _) := fun W hW => fwithin_any a c L t f W hN hW
  have M1 : Hid (∀ W, FrsAt W a L → _) := fun W hW => may_any a c L f t 1 W (by decide) hN hW
  have M2 : Hid (∀ W, FrsAt W a L → _) := fun W hW => may_any a c L t f 1 W (by decide) hN hW
  have M3 : Hid (∀ W, FrsAt W a L → _) := fun W hW => may_any a c L f t 2 W (by decide) hN hW
  have M4 : Hid (∀ W, FrsAt W a L → _) := fun W hW => may_any a c L f f 1 W (by decide) hN hW
  have M5 : Hid (∀ W, FrsAt W a L → _) := fun W hW => may_any a c L f t 4 W (by decide) hN hW
  have M6 : Hid (∀ W, FrsAt W a L → _) := fun W hW => may_any a c L t f 4 W (by decide) hN hW
  have M7 : Hid (∀ W, FrsAt W a L → _) := fun W hW => may_any a c L f f 3 W (by decide) hN hW
  have M8 : Hid (∀ W, FrsAt W a L → _) := fun W hW => may_any a c L t f 3 W (by decide) hN hW
  clear hL
  by_cases h1 : fcheckE L = 0
  · by_cases h2 : fholdsE L f = 0
    · by_cases h3 : fholdsE L t = 0
      · rw [← one_touch h1 h2 h3] at M2
        rw [one_length h1 h2 h3] at M3
        rw [one_self h1 h2] at M4
        have CO : Hid (mayE L f t 4 = 0 → mayE L t f 4 ≠ 0) := close_one
        have PD : Hid (inF L t f = true → mayE L f f 3 ≠ 0 → mayE L t f 3 = 7) := post_down h1 h2 h3
        rw [h1] at DC
        rw [h2] at DF
        rw [h3] at DT
        clear h1 h2 h3
        generalize mayE L f t 1 = X1 at *
        generalize mayE L f t 4 = X5 at *
        generalize mayE L t f 4 = X6 at *
        generalize mayE L f f 3 = X7 at *
        generalize mayE L t f 3 = X8 at *
        generalize inF L t f = I at *
        generalize L.length = n at *
        by_cases h5 : X5 = 0
        · have h6 := CO.out h5
          subst h5
          have b6 : decide (X6 = 0) = false := decide_eq_false h6
          have c6 : (X6 == 0) = false := by simp [h6]
          go_enter Try.func4, Try.ntmps4
          go_wp2_with fail
          refine Calls.mono (DG.out _) ?_
          rintro e w1 ⟨rfl, hb⟩
          have HB1 : Hid (Below w.heap.size w w1) := hb
          clear hb
          go_wp2_with fail
          refine Calls.mono (DC.out _ (HL.out.below HB1.out)) ?_
          rintro e w2 ⟨rfl, hb⟩
          have HB2 : Hid (Below w.heap.size w w2) := HB1.out.trans (hb.mono HB1.out.size)
          clear hb
          go_wp2_with fail
          refine Calls.mono (DF.out _ (HL.out.below HB2.out)) ?_
          rintro e w3 ⟨rfl, hw⟩
          have hw2 := hw.symm
          clear hw
          subst hw2
          go_wp2_with fail
          refine Calls.mono (DT.out _ (HL.out.below HB2.out)) ?_
          rintro e w3 ⟨rfl, hw⟩
          have hw2 := hw.symm
          clear hw
          subst hw2
          go_wp2_with fail
          refine Calls.mono (M1.out _ (HL.out.below HB2.out)) ?_
          rintro e w3 ⟨rfl, hb⟩
          have HB3 : Hid (Below w.heap.size w w3) := HB2.out.trans (hb.mono HB2.out.size)
          clear hb
          go_wp2_with fail
          refine Calls.mono (M2.out _ (HL.out.below HB3.out)) ?_
          rintro e w4 ⟨rfl, hb⟩
          have HB4 : Hid (Below w.heap.size w w4) := HB3.out.trans (hb.mono HB3.out.size)
          clear hb
          go_wp2_with fail
          refine Calls.mono (M3.out _ (HL.out.below HB4.out)) ?_
          rintro e w5 ⟨rfl, hb⟩
          have HB5 : Hid (Below w.heap.size w w5) := HB4.out.trans (hb.mono HB4.out.size)
          clear hb
          go_wp2_with fail
          refine Calls.mono (M4.out _ (HL.out.below HB5.out)) ?_
          rintro e w6 ⟨rfl, hb⟩
          have HB6 : Hid (Below w.heap.size w w6) := HB5.out.trans (hb.mono HB5.out.size)
          clear hb
          go_wp2_with fail
          refine Calls.mono (M5.out _ (HL.out.below HB6.out)) ?_
          rintro e w7 ⟨rfl, hb⟩
          have HB7 : Hid (Below w.heap.size w w7) := HB6.out.trans (hb.mono HB6.out.size)
          clear hb
          go_wp2_with fail
          refine Calls.mono (M6.out _ (HL.out.below HB7.out)) ?_
          rintro e w8 ⟨rfl, hb⟩
          have HB8 : Hid (Below w.heap.size w w8) := HB7.out.trans (hb.mono HB7.out.size)
          clear hb
          go_wp2_with fail
          cases I
          · refine Calls.mono (DW.out _ (HL.out.below HB8.out)) ?_
            rintro e w9 ⟨rfl, hw⟩
            have hw2 := hw.symm
            clear hw
            subst hw2
            go_wp2_with fail
            go_ret
            exact ⟨rfl, HB8.out⟩
          · by_cases h7 : X7 = 0
            · subst h7
              refine Calls.mono (DW.out _ (HL.out.below HB8.out)) ?_
              rintro e w9 ⟨rfl, hw⟩
              have hw2 := hw.symm
              clear hw
              subst hw2
              go_wp2_with fail
              refine Calls.mono (M7.out _ (HL.out.below HB8.out)) ?_
              rintro e w9 ⟨rfl, hb⟩
              have HB9 : Hid (Below w.heap.size w w9) := HB8.out.trans (hb.mono HB8.out.size)
              clear hb
              go_wp2_with fail
              go_ret
              exact ⟨rfl, HB9.out⟩
            · have h8 := PD.out rfl h7
              subst h8
              have b7 : decide (X7 = 0) = false := decide_eq_false h7
              have c7 : (X7 == 0) = false := by simp [h7]
              refine Calls.mono (DW.out _ (HL.out.below HB8.out)) ?_
              rintro e w9 ⟨rfl, hw⟩
              have hw2 := hw.symm
              clear hw
              subst hw2
              go_wp2_with fail
              refine Calls.mono (M7.out _ (HL.out.below HB8.out)) ?_
              rintro e w9 ⟨rfl, hb⟩
              have HB9 : Hid (Below w.heap.size w w9) := HB8.out.trans (hb.mono HB8.out.size)
              clear hb
              go_wp2_with fail
              refine Calls.mono (M8.out _ (HL.out.below HB9.out)) ?_
              rintro e w10 ⟨rfl, hb⟩
              have HB10 : Hid (Below w.heap.size w w10) := HB9.out.trans (hb.mono HB9.out.size)
              clear hb
              go_wp2_with fail
              go_ret
              exact ⟨rfl, HB10.out⟩
        · have b5 : decide (X5 = 0) = false := decide_eq_false h5
          have c5 : (X5 == 0) = false := by simp [h5]
          go_enter Try.func4, Try.ntmps4
          go_wp2_with fail
          refine Calls.mono (DG.out _) ?_
          rintro e w1 ⟨rfl, hb⟩
          have HB1 : Hid (Below w.heap.size w w1) := hb
          clear hb
          go_wp2_with fail
          refine Calls.mono (DC.out _ (HL.out.below HB1.out)) ?_
          rintro e w2 ⟨rfl, hb⟩
          have HB2 : Hid (Below w.heap.size w w2) := HB1.out.trans (hb.mono HB1.out.size)
          clear hb
          go_wp2_with fail
          refine Calls.mono (DF.out _ (HL.out.below HB2.out)) ?_
          rintro e w3 ⟨rfl, hw⟩
          have hw2 := hw.symm
          clear hw
          subst hw2
          go_wp2_with fail
          refine Calls.mono (DT.out _ (HL.out.below HB2.out)) ?_
          rintro e w3 ⟨rfl, hw⟩
          have hw2 := hw.symm
          clear hw
          subst hw2
          go_wp2_with fail
          refine Calls.mono (M1.out _ (HL.out.below HB2.out)) ?_
          rintro e w3 ⟨rfl, hb⟩
          have HB3 : Hid (Below w.heap.size w w3) := HB2.out.trans (hb.mono HB2.out.size)
          clear hb
          go_wp2_with fail
          refine Calls.mono (M2.out _ (HL.out.below HB3.out)) ?_
          rintro e w4 ⟨rfl, hb⟩
          have HB4 : Hid (Below w.heap.size w w4) := HB3.out.trans (hb.mono HB3.out.size)
          clear hb
          go_wp2_with fail
          refine Calls.mono (M3.out _ (HL.out.below HB4.out)) ?_
          rintro e w5 ⟨rfl, hb⟩
          have HB5 : Hid (Below w.heap.size w w5) := HB4.out.trans (hb.mono HB4.out.size)
          clear hb
          go_wp2_with fail
          refine Calls.mono (M4.out _ (HL.out.below HB5.out)) ?_
          rintro e w6 ⟨rfl, hb⟩
          have HB6 : Hid (Below w.heap.size w w6) := HB5.out.trans (hb.mono HB5.out.size)
          clear hb
          go_wp2_with fail
          refine Calls.mono (M5.out _ (HL.out.below HB6.out)) ?_
          rintro e w7 ⟨rfl, hb⟩
          have HB7 : Hid (Below w.heap.size w w7) := HB6.out.trans (hb.mono HB6.out.size)
          clear hb
          go_wp2_with fail
          cases I
          · refine Calls.mono (DW.out _ (HL.out.below HB7.out)) ?_
            rintro e w8 ⟨rfl, hw⟩
            have hw2 := hw.symm
            clear hw
            subst hw2
            go_wp2_with fail
            go_ret
            exact ⟨rfl, HB7.out⟩
          · by_cases h7 : X7 = 0
            · subst h7
              refine Calls.mono (DW.out _ (HL.out.below HB7.out)) ?_
              rintro e w8 ⟨rfl, hw⟩
              have hw2 := hw.symm
              clear hw
              subst hw2
              go_wp2_with fail
              refine Calls.mono (M7.out _ (HL.out.below HB7.out)) ?_
              rintro e w8 ⟨rfl, hb⟩
              have HB8 : Hid (Below w.heap.size w w8) := HB7.out.trans (hb.mono HB7.out.size)
              clear hb
              go_wp2_with fail
              go_ret
              exact ⟨rfl, HB8.out⟩
            · have h8 := PD.out rfl h7
              subst h8
              have b7 : decide (X7 = 0) = false := decide_eq_false h7
              have c7 : (X7 == 0) = false := by simp [h7]
              refine Calls.mono (DW.out _ (HL.out.below HB7.out)) ?_
              rintro e w8 ⟨rfl, hw⟩
              have hw2 := hw.symm
              clear hw
              subst hw2
              go_wp2_with fail
              refine Calls.mono (M7.out _ (HL.out.below HB7.out)) ?_
              rintro e w8 ⟨rfl, hb⟩
              have HB8 : Hid (Below w.heap.size w w8) := HB7.out.trans (hb.mono HB7.out.size)
              clear hb
              go_wp2_with fail
              refine Calls.mono (M8.out _ (HL.out.below HB8.out)) ?_
              rintro e w9 ⟨rfl, hb⟩
              have HB9 : Hid (Below w.heap.size w w9) := HB8.out.trans (hb.mono HB8.out.size)
              clear hb
              go_wp2_with fail
              go_ret
              exact ⟨rfl, HB9.out⟩
      · rw [h1] at DC
        rw [h2] at DF
        generalize fholdsE L t = E at *
        have b : decide (E = 0) = false := decide_eq_false h3
        have b2 : (E == 0) = false := by simp [h3]
        generalize L.length = n at *
        go_enter Try.func4, Try.ntmps4
        go_wp2_with fail
        refine Calls.mono (DG.out _) ?_
        rintro e w1 ⟨rfl, hb⟩
        have HB1 : Hid (Below w.heap.size w w1) := hb
        clear hb
        go_wp2_with fail
        refine Calls.mono (DC.out _ (HL.out.below HB1.out)) ?_
        rintro e w2 ⟨rfl, hb⟩
        have HB2 : Hid (Below w.heap.size w w2) := HB1.out.trans (hb.mono HB1.out.size)
        clear hb
        go_wp2_with fail
        refine Calls.mono (DF.out _ (HL.out.below HB2.out)) ?_
        rintro e w3 ⟨rfl, hw⟩
        have hw2 := hw.symm
        clear hw
        subst hw2
        go_wp2_with fail
        refine Calls.mono (DT.out _ (HL.out.below HB2.out)) ?_
        rintro e w3 ⟨rfl, hw⟩
        have hw2 := hw.symm
        clear hw
        subst hw2
        go_wp2_with fail
        refine Calls.mono (DG.out _) ?_
        rintro e w3 ⟨rfl, hb⟩
        have HB3 : Hid (Below w.heap.size w w3) := HB2.out.trans (hb.mono HB2.out.size)
        clear hb
        go_wp2_with fail
        go_ret
        exact ⟨rfl, HB3.out⟩
    · rw [h1] at DC
      generalize fholdsE L f = E at *
      have b : decide (E = 0) = false := decide_eq_false h2
      have b2 : (E == 0) = false := by simp [h2]
      generalize L.length = n at *
      go_enter Try.func4, Try.ntmps4
      go_wp2_with fail
      refine Calls.mono (DG.out _) ?_
      rintro e w1 ⟨rfl, hb⟩
      have HB1 : Hid (Below w.heap.size w w1) := hb
      clear hb
      go_wp2_with fail
      refine Calls.mono (DC.out _ (HL.out.below HB1.out)) ?_
      rintro e w2 ⟨rfl, hb⟩
      have HB2 : Hid (Below w.heap.size w w2) := HB1.out.trans (hb.mono HB1.out.size)
      clear hb
      go_wp2_with fail
      refine Calls.mono (DF.out _ (HL.out.below HB2.out)) ?_
      rintro e w3 ⟨rfl, hw⟩
      have hw2 := hw.symm
      clear hw
      subst hw2
      go_wp2_with fail
      refine Calls.mono (DG.out _) ?_
      rintro e w3 ⟨rfl, hb⟩
      have HB3 : Hid (Below w.heap.size w w3) := HB2.out.trans (hb.mono HB2.out.size)
      clear hb
      go_wp2_with fail
      go_ret
      exact ⟨rfl, HB3.out⟩
  · generalize fcheckE L = E at *
    have b : decide (E = 0) = false := decide_eq_false h1
    have b2 : (E == 0) = false := by simp [h1]
    generalize L.length = n at *
    go_enter Try.func4, Try.ntmps4
    go_wp2_with fail
    refine Calls.mono (DG.out _) ?_
    rintro e w1 ⟨rfl, hb⟩
    have HB1 : Hid (Below w.heap.size w w1) := hb
    clear hb
    go_wp2_with fail
    refine Calls.mono (DC.out _ (HL.out.below HB1.out)) ?_
    rintro e w2 ⟨rfl, hb⟩
    have HB2 : Hid (Below w.heap.size w w2) := HB1.out.trans (hb.mono HB1.out.size)
    clear hb
    go_wp2_with fail
    refine Calls.mono (DG.out _) ?_
    rintro e w3 ⟨rfl, hb⟩
    have HB3 : Hid (Below w.heap.size w w3) := HB2.out.trans (hb.mono HB2.out.size)
    clear hb
    go_wp2_with fail
    go_ret
    exact ⟨rfl, HB3.out⟩
end Go.Proofs.Ytfgjlfilmbobbaa
