/-
  GuardDown at whatever arguments.
-/
import Derived.Test.YtfgjlfilmbobbaaRGd
import Derived.Test.YtfgjlfilmbobbaaRGg
import Derived.Test.YtfgjlfilmbobbaaRFf
namespace Go.Proofs.Ytfgjlfilmbobbaa
open Go.RowKit
set_option linter.unusedVariables false

theorem close_move (L : List Fr) (f t : Int) : mayE L f t 4 = mayE L f t 5 := by
  unfold mayE askF
  simp
theorem close_down {L : List Fr} {f t k : Int} (h : mayE L f t 4 = 0) (hk : fholdsE L k = 0) (hin : inF L k t = true) : mayE L f k 4 = 0 := by
  obtain ⟨h1, h2, h3, _, _⟩ := may_zero h
  have R := fcheck_zero.1 h1
  obtain ⟨a1, a2⟩ := close_in h (Or.inl rfl)
  rw [may_four h1 h2 hk, if_neg (by decide), if_pos]
  rw [ask_four, Bool.and_eq_true]
  have l1 := in_le R hin
  have l2 := in_le R a2
  refine ⟨?_, in_trans R hin a2⟩
  rw [decide_eq_false (by omega)]
  rfl
theorem gone_may {L : List Fr} {b : Int} (h : heldE L b = 0) (f x : Int) : mayE (resD L b) f b x ≠ 0 ∧ mayE (resD L b) b f x ≠ 0 := by
  obtain ⟨R, q, rfl, hq, _⟩ := held_zero h
  have e : resD L q = disF L q := if_pos h
  rw [e]
  have hg := dis_holds hq
  exact ⟨fun z => absurd (may_zero z).2.2.1 (by rw [hg]; decide), fun z => absurd (may_zero z).2.1 (by rw [hg]; decide)⟩
theorem resD_lenG (L : List Fr) (k : Int) (h : L.length ≤ 9223372036854775807) : (resD L k).length ≤ 9223372036854775807 := by
  unfold resD
  split
  · rw [dis_len]; exact h
  · simp

set_option maxRecDepth 100000 in
set_option maxHeartbeats 4000000 in
theorem guardDown_any (a : Option Addr) (c : Nat) (L : List Fr) (f t k x : Int) (w : World) (hN : L.length ≤ 9223372036854775807) (hL : FrsAt w a L) (hx : (Lit.int .i64 x).wf = true) :
    Calls Try.prog 5 #[.slice a L.length c, .int .i64 f, .int .i64 t, .int .i64 k, .int .i64 x] w fun e w' => e = .returned (.bool true) ∧ Below w.heap.size w w' := by
  have HL : Hid (FrsAt w a L) := hL
  have DG : Hid GuardedOk := guarded_ok
  have DC : Hid (∀ W, FrsAt W a L → _) := fun W hW => fcheck_any a c L W hN hW
  have DK : Hid (∀ W, FrsAt W a L → _) := fun W hW => fholds_any a c L k W hN hW
  have DW : Hid (∀ W, FrsAt W a L → _) := fun W hW => fwithin_any a c L k t W hN hW
  have M1 : Hid (∀ W, FrsAt W a L → _) := fun W hW => may_any a c L f t 4 W (by decide) hN hW
  have M2 : Hid (∀ W, FrsAt W a L → _) := fun W hW => may_any a c L f t 5 W (by decide) hN hW
  have M3 : Hid (∀ W, FrsAt W a L → _) := fun W hW => may_any a c L f k 4 W (by decide) hN hW
  have DD : Hid (∀ W, FrsAt W a L → _) := fun W hW => discard_any a c L t W hN hW
  have M4 : Hid (∀ va vc W, FrsAt W va (resD L t) → _) := fun va vc W hW => may_any va vc (resD L t) f t x W hx (resD_lenG L t hN) hW
  have M5 : Hid (∀ va vc W, FrsAt W va (resD L t) → _) := fun va vc W hW => may_any va vc (resD L t) t f x W hx (resD_lenG L t hN) hW
  clear hL
  by_cases h1 : fcheckE L = 0
  · rw [← close_move] at M2
    have CD : Hid (mayE L f t 4 = 0 → fholdsE L k = 0 → inF L k t = true → mayE L f k 4 = 0) := close_down
    have GM : Hid (heldE L t = 0 → mayE (resD L t) f t x ≠ 0 ∧ mayE (resD L t) t f x ≠ 0) := fun h => gone_may h f x
    rw [h1] at DC
    clear h1
    generalize mayE L f t 4 = X1 at *
    generalize mayE L f k 4 = X3 at *
    generalize mayE (resD L t) f t x = X4 at *
    generalize mayE (resD L t) t f x = X5 at *
    generalize fholdsE L k = F at *
    generalize heldE L t = H at *
    generalize inF L k t = I at *
    generalize resD L t = R at *
    obtain ⟨n, hn⟩ : ∃ n, L.length = n := ⟨_, rfl⟩
    rw [hn] at DC DK DW M1 M2 M3 DD hN ⊢
    clear hn
    obtain ⟨m, hm⟩ : ∃ m, R.length = m := ⟨_, rfl⟩
    rw [hm] at DD M4 M5
    clear hm
    by_cases hX : X1 = 0
    · by_cases hF : F = 0
      · cases I
        · subst hX hF
          go_enter Try.func5, Try.ntmps5
          go_wp2_with fail
          refine Calls.mono (DG.out _) ?_
          rintro e w1 ⟨rfl, hb⟩
          have HB1 : Hid (Below w.heap.size w w1) := hb
          clear hb
          go_wp2_with fail
          refine Calls.mono (DC.out _ (HL.out.below HB1.out)) ?_
          rintro e w2 ⟨rfl, hb⟩
          have HB2 : Hid (Below w.heap.size w w2) := HB1.out.trans (hb.mono HB1.out.size)
          clear hb
          go_wp2_with fail
          refine Calls.mono (M1.out _ (HL.out.below HB2.out)) ?_
          rintro e w3 ⟨rfl, hb⟩
          have HB3 : Hid (Below w.heap.size w w3) := HB2.out.trans (hb.mono HB2.out.size)
          clear hb
          go_wp2_with fail
          refine Calls.mono (M2.out _ (HL.out.below HB3.out)) ?_
          rintro e w4 ⟨rfl, hb⟩
          have HB4 : Hid (Below w.heap.size w w4) := HB3.out.trans (hb.mono HB3.out.size)
          clear hb
          go_wp2_with fail
          refine Calls.mono (M1.out _ (HL.out.below HB4.out)) ?_
          rintro e w5 ⟨rfl, hb⟩
          have HB5 : Hid (Below w.heap.size w w5) := HB4.out.trans (hb.mono HB4.out.size)
          clear hb
          go_wp2_with fail
          refine Calls.mono (DK.out _ (HL.out.below HB5.out)) ?_
          rintro e w6 ⟨rfl, hw⟩
          have hw2 := hw.symm
          clear hw
          subst hw2
          go_wp2_with fail
          refine Calls.mono (DW.out _ (HL.out.below HB5.out)) ?_
          rintro e w6 ⟨rfl, hw⟩
          have hw2 := hw.symm
          clear hw
          subst hw2
          go_wp2_with fail
          by_cases hH : H = 0
          · obtain ⟨h4, h5⟩ := GM.out hH
            subst hH
            have b4 : decide (X4 = 0) = false := decide_eq_false h4
            have c4 : (X4 == 0) = false := by simp [h4]
            have d4 : (X4 != 0) = true := by simp [h4]
            have b5 : decide (X5 = 0) = false := decide_eq_false h5
            have c5 : (X5 == 0) = false := by simp [h5]
            have d5 : (X5 != 0) = true := by simp [h5]
            refine Calls.mono (DD.out _ (HL.out.below HB5.out)) ?_
            rintro e w6 ⟨va, vc, rfl, hb, hF, _⟩
            have HF : Hid (FrsAt w6 va R) := hF
            have HB6 : Hid (Below w.heap.size w w6) := HB5.out.trans (hb.mono HB5.out.size)
            clear hb hF
            go_wp2_with fail
            refine Calls.mono (M4.out va vc _ HF.out) ?_
            rintro e w7 ⟨rfl, hb⟩
            have HF2 : Hid (FrsAt w7 va R) := HF.out.below hb
            have HB7 : Hid (Below w.heap.size w w7) := HB6.out.trans (hb.mono HB6.out.size)
            clear hb
            go_wp2_with fail
            refine Calls.mono (M5.out va vc _ HF2.out) ?_
            rintro e w8 ⟨rfl, hb⟩
            have HB8 : Hid (Below w.heap.size w w8) := HB7.out.trans (hb.mono HB7.out.size)
            clear hb
            go_wp2_with fail
            go_ret
            exact ⟨rfl, HB8.out⟩
          · have bH : decide (H = 0) = false := decide_eq_false hH
            have cH : (H == 0) = false := by simp [hH]
            refine Calls.mono (DD.out _ (HL.out.below HB5.out)) ?_
            rintro e w6 ⟨va, vc, rfl, hb, hF, _⟩
            have HF : Hid (FrsAt w6 va R) := hF
            have HB6 : Hid (Below w.heap.size w w6) := HB5.out.trans (hb.mono HB5.out.size)
            clear hb hF
            go_wp2_with fail
            go_ret
            exact ⟨rfl, HB6.out⟩
        · have hX3 := CD.out hX hF rfl
          subst hX hF hX3
          go_enter Try.func5, Try.ntmps5
          go_wp2_with fail
          refine Calls.mono (DG.out _) ?_
          rintro e w1 ⟨rfl, hb⟩
          have HB1 : Hid (Below w.heap.size w w1) := hb
          clear hb
          go_wp2_with fail
          refine Calls.mono (DC.out _ (HL.out.below HB1.out)) ?_
          rintro e w2 ⟨rfl, hb⟩
          have HB2 : Hid (Below w.heap.size w w2) := HB1.out.trans (hb.mono HB1.out.size)
          clear hb
          go_wp2_with fail
          refine Calls.mono (M1.out _ (HL.out.below HB2.out)) ?_
          rintro e w3 ⟨rfl, hb⟩
          have HB3 : Hid (Below w.heap.size w w3) := HB2.out.trans (hb.mono HB2.out.size)
          clear hb
          go_wp2_with fail
          refine Calls.mono (M2.out _ (HL.out.below HB3.out)) ?_
          rintro e w4 ⟨rfl, hb⟩
          have HB4 : Hid (Below w.heap.size w w4) := HB3.out.trans (hb.mono HB3.out.size)
          clear hb
          go_wp2_with fail
          refine Calls.mono (M1.out _ (HL.out.below HB4.out)) ?_
          rintro e w5 ⟨rfl, hb⟩
          have HB5 : Hid (Below w.heap.size w w5) := HB4.out.trans (hb.mono HB4.out.size)
          clear hb
          go_wp2_with fail
          refine Calls.mono (DK.out _ (HL.out.below HB5.out)) ?_
          rintro e w6 ⟨rfl, hw⟩
          have hw2 := hw.symm
          clear hw
          subst hw2
          go_wp2_with fail
          refine Calls.mono (DW.out _ (HL.out.below HB5.out)) ?_
          rintro e w6 ⟨rfl, hw⟩
          have hw2 := hw.symm
          clear hw
          subst hw2
          go_wp2_with fail
          refine Calls.mono (M3.out _ (HL.out.below HB5.out)) ?_
          rintro e w6 ⟨rfl, hb⟩
          have HB6 : Hid (Below w.heap.size w w6) := HB5.out.trans (hb.mono HB5.out.size)
          clear hb
          go_wp2_with fail
          by_cases hH : H = 0
          · obtain ⟨h4, h5⟩ := GM.out hH
            subst hH
            have b4 : decide (X4 = 0) = false := decide_eq_false h4
            have c4 : (X4 == 0) = false := by simp [h4]
            have d4 : (X4 != 0) = true := by simp [h4]
            have b5 : decide (X5 = 0) = false := decide_eq_false h5
            have c5 : (X5 == 0) = false := by simp [h5]
            have d5 : (X5 != 0) = true := by simp [h5]
            refine Calls.mono (DD.out _ (HL.out.below HB6.out)) ?_
            rintro e w7 ⟨va, vc, rfl, hb, hF, _⟩
            have HF : Hid (FrsAt w7 va R) := hF
            have HB7 : Hid (Below w.heap.size w w7) := HB6.out.trans (hb.mono HB6.out.size)
            clear hb hF
            go_wp2_with fail
            refine Calls.mono (M4.out va vc _ HF.out) ?_
            rintro e w8 ⟨rfl, hb⟩
            have HF2 : Hid (FrsAt w8 va R) := HF.out.below hb
            have HB8 : Hid (Below w.heap.size w w8) := HB7.out.trans (hb.mono HB7.out.size)
            clear hb
            go_wp2_with fail
            refine Calls.mono (M5.out va vc _ HF2.out) ?_
            rintro e w9 ⟨rfl, hb⟩
            have HB9 : Hid (Below w.heap.size w w9) := HB8.out.trans (hb.mono HB8.out.size)
            clear hb
            go_wp2_with fail
            go_ret
            exact ⟨rfl, HB9.out⟩
          · have bH : decide (H = 0) = false := decide_eq_false hH
            have cH : (H == 0) = false := by simp [hH]
            refine Calls.mono (DD.out _ (HL.out.below HB6.out)) ?_
            rintro e w7 ⟨va, vc, rfl, hb, hF, _⟩
            have HF : Hid (FrsAt w7 va R) := hF
            have HB7 : Hid (Below w.heap.size w w7) := HB6.out.trans (hb.mono HB6.out.size)
            clear hb hF
            go_wp2_with fail
            go_ret
            exact ⟨rfl, HB7.out⟩
      · have bF : decide (F = 0) = false := decide_eq_false hF
        have cF : (F == 0) = false := by simp [hF]
        subst hX
        go_enter Try.func5, Try.ntmps5
        go_wp2_with fail
        refine Calls.mono (DG.out _) ?_
        rintro e w1 ⟨rfl, hb⟩
        have HB1 : Hid (Below w.heap.size w w1) := hb
        clear hb
        go_wp2_with fail
        refine Calls.mono (DC.out _ (HL.out.below HB1.out)) ?_
        rintro e w2 ⟨rfl, hb⟩
        have HB2 : Hid (Below w.heap.size w w2) := HB1.out.trans (hb.mono HB1.out.size)
        clear hb
        go_wp2_with fail
        refine Calls.mono (M1.out _ (HL.out.below HB2.out)) ?_
        rintro e w3 ⟨rfl, hb⟩
        have HB3 : Hid (Below w.heap.size w w3) := HB2.out.trans (hb.mono HB2.out.size)
        clear hb
        go_wp2_with fail
        refine Calls.mono (M2.out _ (HL.out.below HB3.out)) ?_
        rintro e w4 ⟨rfl, hb⟩
        have HB4 : Hid (Below w.heap.size w w4) := HB3.out.trans (hb.mono HB3.out.size)
        clear hb
        go_wp2_with fail
        refine Calls.mono (M1.out _ (HL.out.below HB4.out)) ?_
        rintro e w5 ⟨rfl, hb⟩
        have HB5 : Hid (Below w.heap.size w w5) := HB4.out.trans (hb.mono HB4.out.size)
        clear hb
        go_wp2_with fail
        refine Calls.mono (DK.out _ (HL.out.below HB5.out)) ?_
        rintro e w6 ⟨rfl, hw⟩
        have hw2 := hw.symm
        clear hw
        subst hw2
        go_wp2_with fail
        by_cases hH : H = 0
        · obtain ⟨h4, h5⟩ := GM.out hH
          subst hH
          have b4 : decide (X4 = 0) = false := decide_eq_false h4
          have c4 : (X4 == 0) = false := by simp [h4]
          have d4 : (X4 != 0) = true := by simp [h4]
          have b5 : decide (X5 = 0) = false := decide_eq_false h5
          have c5 : (X5 == 0) = false := by simp [h5]
          have d5 : (X5 != 0) = true := by simp [h5]
          refine Calls.mono (DD.out _ (HL.out.below HB5.out)) ?_
          rintro e w6 ⟨va, vc, rfl, hb, hF, _⟩
          have HF : Hid (FrsAt w6 va R) := hF
          have HB6 : Hid (Below w.heap.size w w6) := HB5.out.trans (hb.mono HB5.out.size)
          clear hb hF
          go_wp2_with fail
          refine Calls.mono (M4.out va vc _ HF.out) ?_
          rintro e w7 ⟨rfl, hb⟩
          have HF2 : Hid (FrsAt w7 va R) := HF.out.below hb
          have HB7 : Hid (Below w.heap.size w w7) := HB6.out.trans (hb.mono HB6.out.size)
          clear hb
          go_wp2_with fail
          refine Calls.mono (M5.out va vc _ HF2.out) ?_
          rintro e w8 ⟨rfl, hb⟩
          have HB8 : Hid (Below w.heap.size w w8) := HB7.out.trans (hb.mono HB7.out.size)
          clear hb
          go_wp2_with fail
          go_ret
          exact ⟨rfl, HB8.out⟩
        · have bH : decide (H = 0) = false := decide_eq_false hH
          have cH : (H == 0) = false := by simp [hH]
          refine Calls.mono (DD.out _ (HL.out.below HB5.out)) ?_
          rintro e w6 ⟨va, vc, rfl, hb, hF, _⟩
          have HF : Hid (FrsAt w6 va R) := hF
          have HB6 : Hid (Below w.heap.size w w6) := HB5.out.trans (hb.mono HB5.out.size)
          clear hb hF
          go_wp2_with fail
          go_ret
          exact ⟨rfl, HB6.out⟩
    · have bX : decide (X1 = 0) = false := decide_eq_false hX
      have cX : (X1 == 0) = false := by simp [hX]
      go_enter Try.func5, Try.ntmps5
      go_wp2_with fail
      refine Calls.mono (DG.out _) ?_
      rintro e w1 ⟨rfl, hb⟩
      have HB1 : Hid (Below w.heap.size w w1) := hb
      clear hb
      go_wp2_with fail
      refine Calls.mono (DC.out _ (HL.out.below HB1.out)) ?_
      rintro e w2 ⟨rfl, hb⟩
      have HB2 : Hid (Below w.heap.size w w2) := HB1.out.trans (hb.mono HB1.out.size)
      clear hb
      go_wp2_with fail
      refine Calls.mono (M1.out _ (HL.out.below HB2.out)) ?_
      rintro e w3 ⟨rfl, hb⟩
      have HB3 : Hid (Below w.heap.size w w3) := HB2.out.trans (hb.mono HB2.out.size)
      clear hb
      go_wp2_with fail
      refine Calls.mono (M2.out _ (HL.out.below HB3.out)) ?_
      rintro e w4 ⟨rfl, hb⟩
      have HB4 : Hid (Below w.heap.size w w4) := HB3.out.trans (hb.mono HB3.out.size)
      clear hb
      go_wp2_with fail
      refine Calls.mono (M1.out _ (HL.out.below HB4.out)) ?_
      rintro e w5 ⟨rfl, hb⟩
      have HB5 : Hid (Below w.heap.size w w5) := HB4.out.trans (hb.mono HB4.out.size)
      clear hb
      go_wp2_with fail
      by_cases hH : H = 0
      · obtain ⟨h4, h5⟩ := GM.out hH
        subst hH
        have b4 : decide (X4 = 0) = false := decide_eq_false h4
        have c4 : (X4 == 0) = false := by simp [h4]
        have d4 : (X4 != 0) = true := by simp [h4]
        have b5 : decide (X5 = 0) = false := decide_eq_false h5
        have c5 : (X5 == 0) = false := by simp [h5]
        have d5 : (X5 != 0) = true := by simp [h5]
        refine Calls.mono (DD.out _ (HL.out.below HB5.out)) ?_
        rintro e w6 ⟨va, vc, rfl, hb, hF, _⟩
        have HF : Hid (FrsAt w6 va R) := hF
        have HB6 : Hid (Below w.heap.size w w6) := HB5.out.trans (hb.mono HB5.out.size)
        clear hb hF
        go_wp2_with fail
        refine Calls.mono (M4.out va vc _ HF.out) ?_
        rintro e w7 ⟨rfl, hb⟩
        have HF2 : Hid (FrsAt w7 va R) := HF.out.below hb
        have HB7 : Hid (Below w.heap.size w w7) := HB6.out.trans (hb.mono HB6.out.size)
        clear hb
        go_wp2_with fail
        refine Calls.mono (M5.out va vc _ HF2.out) ?_
        rintro e w8 ⟨rfl, hb⟩
        have HB8 : Hid (Below w.heap.size w w8) := HB7.out.trans (hb.mono HB7.out.size)
        clear hb
        go_wp2_with fail
        go_ret
        exact ⟨rfl, HB8.out⟩
      · have bH : decide (H = 0) = false := decide_eq_false hH
        have cH : (H == 0) = false := by simp [hH]
        refine Calls.mono (DD.out _ (HL.out.below HB5.out)) ?_
        rintro e w6 ⟨va, vc, rfl, hb, hF, _⟩
        have HF : Hid (FrsAt w6 va R) := hF
        have HB6 : Hid (Below w.heap.size w w6) := HB5.out.trans (hb.mono HB5.out.size)
        clear hb hF
        go_wp2_with fail
        go_ret
        exact ⟨rfl, HB6.out⟩
  · generalize fcheckE L = E at *
    have b : decide (E = 0) = false := decide_eq_false h1
    have b2 : (E == 0) = false := by simp [h1]
    generalize L.length = n at *
    go_enter Try.func5, Try.ntmps5
    go_wp2_with fail
    refine Calls.mono (DG.out _) ?_
    rintro e w1 ⟨rfl, hb⟩
    have HB1 : Hid (Below w.heap.size w w1) := hb
    clear hb
    go_wp2_with fail
    refine Calls.mono (DC.out _ (HL.out.below HB1.out)) ?_
    rintro e w2 ⟨rfl, hb⟩
    have HB2 : Hid (Below w.heap.size w w2) := HB1.out.trans (hb.mono HB1.out.size)
    clear hb
    go_wp2_with fail
    refine Calls.mono (DG.out _) ?_
    rintro e w3 ⟨rfl, hb⟩
    have HB3 : Hid (Below w.heap.size w w3) := HB2.out.trans (hb.mono HB2.out.size)
    clear hb
    go_wp2_with fail
    go_ret
    exact ⟨rfl, HB3.out⟩
end Go.Proofs.Ytfgjlfilmbobbaa
