/-
  port.Check: each port, one after the other; checkHeld.
-/
import Derived.Test.YtgjfmepbphfjoaaUPwc
namespace Go.Proofs.Ytgjfmepbphfjoaa
open Go.RowKit Go.ChangeShapes Go.WideShapes
set_option linter.unusedVariables false

set_option maxRecDepth 100000 in
set_option maxHeartbeats 4000000 in
theorem checkPort_any (a : Option Addr) (c : Nat) (L : List Pt) (i : Nat) (Fr : Int) (w : World) (hN : L.length ≤ 12) (hi : i < L.length) (hB : BigP L) (hL : PtsAt w a L) :
    Calls Try.prog 37 #[.slice a L.length c, .int .i64 (i : Int), .int .i64 Fr] w fun e w' => e = .returned (.int .i64 (portE L Fr i)) ∧ Below w.heap.size w w' := by
  have HL : Hid (PtsAt w a L) := hL
  obtain ⟨b, o, ea, c0, c1, c2, ca, cc, c3, ⟨_, hk⟩, c4⟩ := hL i hi
  subst ea
  obtain ⟨bg1, bg2⟩ := hB i hi
  have hbb : b < w.heap.size := World.block_lt_of_cell? _ _ c0
  have hlt2 : (i : Int) < (L.length : Int) := by omega
  have DF : Hid (∀ W, _) := fun W => isFrame_anyPwc (pt L i).o Fr W
  have DP : Hid (∀ W, _) := fun W => isPort_any (some ⟨b, o, none⟩) L.length c (pt L i).m W (by omega)
  have DT : Hid (∀ W, _) := fun W => turnFits_any (pt L i).t W
  have DC : Hid (∀ W, Below w.heap.size w W → _) := fun W hW => checkCame_any (pt L i) ca cc W bg1 bg2 (hk.below hW)
  clear hL hB hk bg2
  by_cases hB0 : 0 ≤ (pt L i).o ∧ (pt L i).o < Fr
  · rw [decide_eq_true hB0] at DF
    by_cases hI0 : 0 ≤ (pt L i).m ∧ (pt L i).m ≤ (L.length : Int) - 1
    · rw [decide_eq_true hI0] at DP
      obtain ⟨q, hq⟩ := Int.eq_ofNat_of_zero_le hI0.1
      have hqn : q < L.length := by omega
      have hqn2 : (q : Int) < (L.length : Int) := by omega
      obtain ⟨b', o', ea', _, _, d2, _⟩ := HL.out q hqn
      cases ea'
      have PE : Hid (portE L Fr i = if (q : Int) = i ∨ (pt L q).m ≠ i then 3 else if ¬ (0 ≤ (pt L i).t ∧ (pt L i).t ≤ 1000) then 2 else cameE (pt L i).cm.length (pt L i).s (graphsE (pt L i).cm)) := by
        show portE L Fr i = _
        unfold portE cameE
        rw [if_neg (fun h => by rcases h with h | h; exact absurd hB0 h; exact absurd hI0 h), hq, Int.toNat_natCast]
      rw [hq] at c2 DP DC
      clear hI0 hB0 hq HL
      rw [PE.out]
      clear PE
      generalize (pt L q).m = ym at *
      by_cases e1 : q = i
      · rw [if_pos (Or.inl (by omega))]
        have e1b : i = q := e1.symm
        clear e1
        subst e1b
        clear DC DT
        generalize (pt L i).o = xo at *
        generalize (pt L i).t = xt at *
        generalize (pt L i).cm.length = cl at *
        generalize (pt L i).s = xs at *
        generalize L.length = n at *
        have y1 : ((i : Int) == (i : Int)) = true := by simp
        go_enter Try.func37, Try.ntmps37
        go_wp2_with fail
        refine Calls.mono (DF.out _) ?_
        rintro e w2 ⟨rfl, hw2⟩
        have hw3 := hw2.symm
        clear hw2
        subst hw3
        go_wp2_with fail
        refine Calls.mono (DP.out _) ?_
        rintro e w2 ⟨rfl, hw2⟩
        have hw3 := hw2.symm
        clear hw2
        subst hw3
        go_wp2_with fail
        go_ret
        exact ⟨rfl, one_belowS _ _⟩
      · have y1 : ((q : Int) == (i : Int)) = false := by simp; omega
        have y2 : decide ((q : Int) = (i : Int)) = false := decide_eq_false (by omega)
        have y3 : decide (q = i) = false := decide_eq_false e1
        by_cases e2 : ym = (i : Int)
        · rw [if_neg (fun h => by rcases h with h | h; omega; exact absurd e2 h)]
          subst e2
          by_cases hT : 0 ≤ (pt L i).t ∧ (pt L i).t ≤ 1000
          · rw [decide_eq_true hT] at DT
            rw [if_neg (not_not_intro hT)]
            clear hT
            generalize cameE (pt L i).cm.length (pt L i).s (graphsE (pt L i).cm) = E at *
            generalize (pt L i).o = xo at *
            generalize (pt L i).t = xt at *
            generalize (pt L i).cm.length = cl at *
            generalize (pt L i).s = xs at *
            generalize L.length = n at *
            go_enter Try.func37, Try.ntmps37
            go_wp2_with fail
            refine Calls.mono (DF.out _) ?_
            rintro e w2 ⟨rfl, hw2⟩
            have hw3 := hw2.symm
            clear hw2
            subst hw3
            go_wp2_with fail
            refine Calls.mono (DP.out _) ?_
            rintro e w2 ⟨rfl, hw2⟩
            have hw3 := hw2.symm
            clear hw2
            subst hw3
            go_wp2_with fail
            refine Calls.mono (DT.out _) ?_
            rintro e w2 ⟨rfl, hw2⟩
            have hw3 := hw2.symm
            clear hw2
            subst hw3
            go_wp2_with fail
            refine Calls.mono (DC.out _ (one_belowS _ _)) ?_
            rintro e w2 ⟨rfl, hb2⟩
            have HB2 : Hid (Below w.heap.size w w2) := (one_belowS _ _).trans (hb2.mono (by simp))
            clear hb2
            go_wp2_with fail
            go_ret
            exact ⟨rfl, HB2.out⟩
          · rw [decide_eq_false hT] at DT
            rw [if_pos hT]
            clear hT DC
            generalize (pt L i).o = xo at *
            generalize (pt L i).t = xt at *
            generalize (pt L i).cm.length = cl at *
            generalize (pt L i).s = xs at *
            generalize L.length = n at *
            go_enter Try.func37, Try.ntmps37
            go_wp2_with fail
            refine Calls.mono (DF.out _) ?_
            rintro e w2 ⟨rfl, hw2⟩
            have hw3 := hw2.symm
            clear hw2
            subst hw3
            go_wp2_with fail
            refine Calls.mono (DP.out _) ?_
            rintro e w2 ⟨rfl, hw2⟩
            have hw3 := hw2.symm
            clear hw2
            subst hw3
            go_wp2_with fail
            refine Calls.mono (DT.out _) ?_
            rintro e w2 ⟨rfl, hw2⟩
            have hw3 := hw2.symm
            clear hw2
            subst hw3
            go_wp2_with fail
            go_ret
            exact ⟨rfl, one_belowS _ _⟩
        · rw [if_pos (Or.inr e2)]
          have y4 : (ym == (i : Int)) = false := by simp [e2]
          have y5 : decide (ym = (i : Int)) = false := decide_eq_false e2
          have y6 : (ym != (i : Int)) = true := by simp [e2]
          clear DC DT
          generalize (pt L i).o = xo at *
          generalize (pt L i).t = xt at *
          generalize (pt L i).cm.length = cl at *
          generalize (pt L i).s = xs at *
          generalize L.length = n at *
          go_enter Try.func37, Try.ntmps37
          go_wp2_with fail
          refine Calls.mono (DF.out _) ?_
          rintro e w2 ⟨rfl, hw2⟩
          have hw3 := hw2.symm
          clear hw2
          subst hw3
          go_wp2_with fail
          refine Calls.mono (DP.out _) ?_
          rintro e w2 ⟨rfl, hw2⟩
          have hw3 := hw2.symm
          clear hw2
          subst hw3
          go_wp2_with fail
          go_ret
          exact ⟨rfl, one_belowS _ _⟩
    · rw [decide_eq_false hI0] at DP
      have PE : Hid (portE L Fr i = 4) := by
        show portE L Fr i = _
        unfold portE
        rw [if_pos (Or.inr hI0)]
      rw [PE.out]
      clear PE hI0 hB0 DC DT HL
      generalize (pt L i).o = xo at *
      generalize (pt L i).t = xt at *
      generalize (pt L i).m = xm at *
      generalize (pt L i).cm.length = cl at *
      generalize (pt L i).s = xs at *
      generalize L.length = n at *
      go_enter Try.func37, Try.ntmps37
      go_wp2_with fail
      refine Calls.mono (DF.out _) ?_
      rintro e w2 ⟨rfl, hw2⟩
      have hw3 := hw2.symm
      clear hw2
      subst hw3
      go_wp2_with fail
      refine Calls.mono (DP.out _) ?_
      rintro e w2 ⟨rfl, hw2⟩
      have hw3 := hw2.symm
      clear hw2
      subst hw3
      go_wp2_with fail
      go_ret
      exact ⟨rfl, one_belowS _ _⟩
  · rw [decide_eq_false hB0] at DF
    have PE : Hid (portE L Fr i = 4) := by
      show portE L Fr i = _
      unfold portE
      rw [if_pos (Or.inl hB0)]
    rw [PE.out]
    clear PE hB0 DC DT DP HL
    generalize (pt L i).o = xo at *
    generalize (pt L i).t = xt at *
    generalize (pt L i).m = xm at *
    generalize (pt L i).cm.length = cl at *
    generalize (pt L i).s = xs at *
    generalize L.length = n at *
    go_enter Try.func37, Try.ntmps37
    go_wp2_with fail
    refine Calls.mono (DF.out _) ?_
    rintro e w2 ⟨rfl, hw2⟩
    have hw3 := hw2.symm
    clear hw2
    subst hw3
    go_wp2_with fail
    go_ret
    exact ⟨rfl, one_belowS _ _⟩

set_option maxRecDepth 100000 in
set_option maxHeartbeats 2000000 in
theorem pcheck_ans : PCheckAns := fun a c L Fr w hN hB hsl hL => by
  by_cases hm : 12 < L.length
  · have e : pcheckE L Fr = 1 := by unfold pcheckE; rw [if_pos hm]
    rw [e]
    have hm2 : decide ((12 : Int) < (L.length : Int)) = true := decide_eq_true (by omega)
    clear hL e hB hsl
    generalize L.length = n at *
    go_enter Try.func16, Try.ntmps16
    go_wp2_with fail
    go_ret
    exact ⟨rfl, Below.refl _ _⟩
  · have e : pcheckE L Fr = pErr L Fr 0 := by unfold pcheckE; rw [if_neg hm]
    rw [e]
    have hm2 : decide ((12 : Int) < (L.length : Int)) = false := decide_eq_false (by omega)
    have D : Hid (∀ i, i < L.length → ∀ W, Below w.heap.size w W → _) := fun i hi W hW => checkPort_any a c L i Fr W (by omega) hi hB (hL.below hW)
    have ST : Hid (∀ i, i < L.length → pErr L Fr i = if portE L Fr i = 0 then pErr L Fr (i + 1) else portE L Fr i) := fun i hi => pErr_step hi
    have EN : Hid (pErr L Fr L.length = 0) := pErr_end (Nat.le_refl _)
    clear hL e hB hsl
    obtain ⟨E, hE⟩ : ∃ E, pErr L Fr 0 = E := ⟨_, rfl⟩
    have HE : Hid (pErr L Fr 0 = E) := hE
    rw [hE]
    clear hE
    obtain ⟨n, hn⟩ : ∃ n, L.length = n := ⟨_, rfl⟩
    rw [hn] at hN hm hm2 ST EN D ⊢
    clear hn
    go_enter Try.func16, Try.ntmps16
    go_wp2_with fail
    go_loopg [12] n (fun g s12 wr => ∃ i : Nat, i ≤ n ∧ n - i ≤ g ∧ s12 = .int .i64 i ∧ Hid (Below w.heap.size w wr) ∧ Hid (pErr L Fr i = E))
    case atStart => exact ⟨0, by omega, by omega, rfl, Below.refl _ _, HE⟩
    case round =>
      obtain ⟨i, hi, hg, rfl, HBr, HEi⟩ := hrel
      clear HE
      by_cases hlt : i < n
      · have hlt2 : (i : Int) < (n : Int) := by omega
        have Di : Hid _ := D.out i hlt wr HBr.out
        have sti := (ST.out i hlt).symm.trans HEi.out
        have HST : Hid _ := sti
        clear sti HEi
        generalize portE L Fr i = P at *
        go_wp2_with fail
        refine Calls.mono Di.out ?_
        rintro e w1 ⟨rfl, hb1⟩
        have HB1 : Hid (Below w.heap.size w w1) := HBr.out.trans (hb1.mono HBr.out.size)
        clear hb1 Di
        by_cases hP : P = 0
        · have HG1 : Hid (pErr L Fr (i + 1) = E) := by have := HST.out; rw [if_pos hP] at this; exact this
          subst hP
          clear HST
          go_wp2_with fail
          go_roundg (n - (i + 1))
          case measure => omega
          case rel => exact ⟨i + 1, by omega, by omega, by go_num, HB1, HG1⟩
        · have HG1 : Hid (P = E) := by have := HST.out; rw [if_neg hP] at this; exact this
          have y1 : decide (P = 0) = false := decide_eq_false hP
          have y2 : (P == 0) = false := by simp [hP]
          clear HST
          go_wp2_with fail
          go_ret
          exact ⟨by rw [HG1.out]; rfl, HB1.out⟩
      · have e : i = n := by omega
        have HGE : Hid (0 = E) := by have := HEi.out; rw [e, EN.out] at this; exact this
        have hlt3 : decide ((i : Int) < (n : Int)) = false := decide_eq_false (by omega)
        clear HEi e
        go_wp2_with fail
        go_ret
        exact ⟨by rw [HGE.out]; rfl, HBr.out⟩

set_option maxRecDepth 100000 in
set_option maxHeartbeats 2000000 in
theorem checkHeld_anyPwd (a : Option Addr) (c : Nat) (L : List Pt) (Fr k o t : Int) (w : World) (hN : L.length ≤ 9223372036854775807) (hB : BigP L) (hsl : SlA a L.length c) (hL : PtsAt w a L) :
    Calls Try.prog 26 #[.slice a L.length c, .int .i64 Fr, .int .i64 k, .int .i64 o, .int .i64 t] w fun e w' => e = .returned (.int .i64 (heldPE L Fr k o t)) ∧ Below w.heap.size w w' := by
  have DC : Hid _ := pcheck_ans a c L Fr w hN hB hsl hL
  have HL : Hid (PtsAt w a L) := hL
  clear hL hB hsl
  unfold heldPE
  by_cases h1 : pcheckE L Fr = 0
  · rw [if_neg (not_not_intro h1)]
    rw [h1] at DC
    have hN12 : L.length ≤ 12 := (pcheck_zero.1 h1).few
    have DP : Hid (∀ W, _) := fun W => isPort_any a L.length c k W (by omega)
    by_cases h2 : 0 ≤ k ∧ k < (L.length : Int)
    · rw [if_neg (not_not_intro h2)]
      rw [decide_eq_true (show 0 ≤ k ∧ k ≤ (L.length : Int) - 1 by omega)] at DP
      obtain ⟨q, rfl⟩ := Int.eq_ofNat_of_zero_le h2.1
      have hq : q < L.length := by omega
      have hq2 : (q : Int) < (L.length : Int) := by omega
      rw [Int.toNat_natCast]
      obtain ⟨b, oo, ea, c0, c1, c2, ca, cc, c3, hg3, c4⟩ := HL.out q hq
      subst ea
      clear h1 h2 hg3 c2 c3 HL
      generalize pt L q = x at *
      obtain ⟨xo, xt, xm, xc, xs⟩ := x
      dsimp only at c0 c1 c4 ⊢
      by_cases e1 : xo = o
      · subst e1
        by_cases e2 : xt = t
        · subst e2
          rw [if_neg (by simp)]
          cases xs
          · rw [if_neg (by decide)]
            generalize L.length = n at *
            go_enter Try.func26, Try.ntmps26
            go_wp2_with fail
            refine Calls.mono DC.out ?_
            rintro e w1 ⟨rfl, hb⟩
            have HB1 : Hid (Below w.heap.size w w1) := hb
            replace c0 := keepC c0 hb
            replace c1 := keepC c1 hb
            replace c4 := keepC c4 hb
            clear hb DC
            go_wp2_with fail
            refine Calls.mono (DP.out _) ?_
            rintro e w2 ⟨rfl, hw2⟩
            have hw3 := hw2.symm
            clear hw2
            subst hw3
            go_wp2_with fail
            go_ret
            exact ⟨rfl, HB1.out⟩
          · rw [if_pos rfl]
            generalize L.length = n at *
            go_enter Try.func26, Try.ntmps26
            go_wp2_with fail
            refine Calls.mono DC.out ?_
            rintro e w1 ⟨rfl, hb⟩
            have HB1 : Hid (Below w.heap.size w w1) := hb
            replace c0 := keepC c0 hb
            replace c1 := keepC c1 hb
            replace c4 := keepC c4 hb
            clear hb DC
            go_wp2_with fail
            refine Calls.mono (DP.out _) ?_
            rintro e w2 ⟨rfl, hw2⟩
            have hw3 := hw2.symm
            clear hw2
            subst hw3
            go_wp2_with fail
            go_ret
            exact ⟨rfl, HB1.out⟩
        · rw [if_pos (Or.inr e2)]
          have y1 : decide (xt = t) = false := decide_eq_false e2
          have y2 : (xt == t) = false := by simp [e2]
          have y3 : (xt != t) = true := by simp [e2]
          generalize L.length = n at *
          go_enter Try.func26, Try.ntmps26
          go_wp2_with fail
          refine Calls.mono DC.out ?_
          rintro e w1 ⟨rfl, hb⟩
          have HB1 : Hid (Below w.heap.size w w1) := hb
          replace c0 := keepC c0 hb
          replace c1 := keepC c1 hb
          replace c4 := keepC c4 hb
          clear hb DC
          go_wp2_with fail
          refine Calls.mono (DP.out _) ?_
          rintro e w2 ⟨rfl, hw2⟩
          have hw3 := hw2.symm
          clear hw2
          subst hw3
          go_wp2_with fail
          go_ret
          exact ⟨rfl, HB1.out⟩
      · rw [if_pos (Or.inl e1)]
        have y1 : decide (xo = o) = false := decide_eq_false e1
        have y2 : (xo == o) = false := by simp [e1]
        have y3 : (xo != o) = true := by simp [e1]
        generalize L.length = n at *
        go_enter Try.func26, Try.ntmps26
        go_wp2_with fail
        refine Calls.mono DC.out ?_
        rintro e w1 ⟨rfl, hb⟩
        have HB1 : Hid (Below w.heap.size w w1) := hb
        replace c0 := keepC c0 hb
        replace c1 := keepC c1 hb
        replace c4 := keepC c4 hb
        clear hb DC
        go_wp2_with fail
        refine Calls.mono (DP.out _) ?_
        rintro e w2 ⟨rfl, hw2⟩
        have hw3 := hw2.symm
        clear hw2
        subst hw3
        go_wp2_with fail
        go_ret
        exact ⟨rfl, HB1.out⟩
    · rw [if_pos h2]
      rw [decide_eq_false (show ¬ (0 ≤ k ∧ k ≤ (L.length : Int) - 1) by omega)] at DP
      clear h1 h2 HL
      generalize L.length = n at *
      go_enter Try.func26, Try.ntmps26
      go_wp2_with fail
      refine Calls.mono DC.out ?_
      rintro e w1 ⟨rfl, hb⟩
      have HB1 : Hid (Below w.heap.size w w1) := hb
      clear hb DC
      go_wp2_with fail
      refine Calls.mono (DP.out _) ?_
      rintro e w2 ⟨rfl, hw2⟩
      have hw3 := hw2.symm
      clear hw2
      subst hw3
      go_wp2_with fail
      go_ret
      exact ⟨rfl, HB1.out⟩
  · rw [if_pos h1]
    have y1 : decide (pcheckE L Fr = 0) = false := decide_eq_false h1
    have y2 : (pcheckE L Fr == 0) = false := by simp [h1]
    clear HL
    generalize pcheckE L Fr = E at *
    generalize L.length = n at *
    go_enter Try.func26, Try.ntmps26
    go_wp2_with fail
    refine Calls.mono DC.out ?_
    rintro e w1 ⟨rfl, hb⟩
    have HB1 : Hid (Below w.heap.size w w1) := hb
    clear hb DC
    go_wp2_with fail
    go_ret
    exact ⟨rfl, HB1.out⟩
end Go.Proofs.Ytgjfmepbphfjoaa
