/-
  FrameSays at whatever arguments.
-/
import Derived.Test.YtfnfcldkadfpmaaJFg
import Derived.Test.YtfnfcldkadfpmaaJFk
namespace Go.Proofs.Ytfnfcldkadfpmaa
open Go.RowKit
set_option linter.unusedVariables false

theorem rattach_any (a : Option Addr) (c : Nat) (L : List Fr) (k o m : Int) (w : World) (hN : L.length ≤ 9223372036854775807) (hL : FrsAt w a L) :
    Calls Try.prog 9 #[.slice a L.length c, .int .i64 k, .int .i64 o, .int .i64 m] w fun e w' => ∃ va vc, e = .returned (.tuple #[.slice va (resA L k o m).length vc, .int .i64 (attE L k o m)]) ∧ Below w.heap.size w w' ∧ FrsAt w' va (resA L k o m) := by
  by_cases hE : attE L k o m = 0
  · have e : resA L k o m = L ++ [attF L k o m] := if_pos hE
    rw [e, hE]
    refine (rattach_ok a c L k o m w hN hL hE).mono ?_
    rintro e w' ⟨va, vc, rfl, hb, hF⟩
    exact ⟨va, vc, by rw [List.length_append, List.length_singleton], hb, hF⟩
  · have e : resA L k o m = [] := if_neg hE
    rw [e]
    have H : Calls Try.prog 9 #[.slice a L.length c, .int .i64 k, .int .i64 o, .int .i64 m] w fun e w' => e = .returned (.tuple #[.slice none 0 0, .int .i64 (attE L k o m)]) ∧ Below w.heap.size w w' := by
      by_cases h : heldE L k = 0
      · by_cases ho : 0 ≤ o ∧ o ≤ 9
        · by_cases hm : 0 ≤ m ∧ m ≤ 7
          · by_cases h3 : bits .and .i64 (fr L k.toNat).m 4 = 0
            · exact rattach_secret a c L k o m w hN hL h ⟨ho, hm⟩ h3
            · by_cases h4 : L.length = 8
              · exact rattach_many a c L k o m w hN hL h ⟨ho, hm⟩ h3 h4
              · exact absurd (by unfold attE; rw [if_neg (not_not_intro h), if_neg (not_not_intro ⟨ho, hm⟩), if_neg h3, if_neg h4]) hE
          · exact rattach_may a c L k o m w hN hL h ho hm
        · exact rattach_origin a c L k o m w hN hL h ho
      · exact rattach_held a c L k o m w hN hL h
    refine H.mono ?_
    rintro e w' ⟨rfl, hb⟩
    exact ⟨none, 0, rfl, hb, fun i hi => absurd hi (Nat.not_lt_zero _)⟩
theorem resA_len (L : List Fr) (k o m : Int) (h : L.length ≤ 9223372036854775807) : (resA L k o m).length ≤ 9223372036854775807 := by
  unfold resA
  split
  · rename_i hE
    have := (att_right hE).few
    omega
  · simp
theorem resD_len (L : List Fr) (k : Int) (h : L.length ≤ 9223372036854775807) : (resD L k).length ≤ 9223372036854775807 := by
  unfold resD
  split
  · rw [dis_len]; exact h
  · simp

set_option maxRecDepth 100000 in
set_option maxHeartbeats 4000000 in
theorem frameSays_any (a : Option Addr) (c : Nat) (L : List Fr) (k o m top : Int) (w : World) (hN : L.length ≤ 9223372036854775807) (hL : FrsAt w a L) :
    Calls Try.prog 3 #[.slice a L.length c, .int .i64 k, .int .i64 o, .int .i64 m, .int .i64 top] w fun e w' => e = .returned (.bool true) ∧ Below w.heap.size w w' := by
  have HL : Hid (FrsAt w a L) := hL
  have DA : Hid (∀ W, FrsAt W a L → _) := fun W hW => attach_any a c L k o m W hN hW
  have DD : Hid (∀ W, FrsAt W a L → _) := fun W hW => discard_any a c L k W hN hW
  have DL : Hid (∀ W, FrsAt W a L → _) := fun W hW => length_any a c L k W hN hW
  have RA : Hid (∀ W, FrsAt W a L → _) := fun W hW => rattach_any a c L k o m W hN hW
  have RD : Hid (∀ W, FrsAt W a L → _) := fun W hW => rdiscard_any a c L k W hN hW
  have RL : Hid (∀ W, FrsAt W a L → _) := fun W hW => rlength_any a c L k W hN hW
  have RC : Hid (∀ W, FrsAt W a L → _) := fun W hW => rfcheck_any a c L W hN hW
  have DF : Hid FramedOk := framed_ok
  have DC : Hid (∀ W, FrsAt W a L → _) := fun W hW => fcheck_any a c L W hN hW
  have DH : Hid (∀ W, FrsAt W a L → _) := fun W hW => fholds_any a c L k W hN hW
  have RH : Hid (∀ W, FrsAt W a L → _) := fun W hW => rfholds_any a c L k W hN hW
  have DW : Hid (∀ W, FrsAt W a L → _) := fun W hW => fwithin_any a c L k top W hN hW
  have DQ : Hid (∀ va vA vc vcA W, FrsAt W va (resA L k o m) → FrsAt W vA (resA L k o m) → _) := fun va vA vc vcA W h1 h2 => equalFrs_same va vA vc vcA (resA L k o m) W (resA_len L k o m hN) h1 h2
  have DQD : Hid (∀ va vA vc vcA W, FrsAt W va (resD L k) → FrsAt W vA (resD L k) → _) := fun va vA vc vcA W h1 h2 => equalFrs_same va vA vc vcA (resD L k) W (resD_len L k hN) h1 h2
  by_cases hE : fcheckE L = 0
  · have R := fcheck_zero.1 hE
    have RW : Hid (∀ W, FrsAt W a L → _) := fun W hW => rwithin_any a c L k top W R hW
    rw [hE] at RC DC
    clear hL R hE
    generalize attE L k o m = EA at *
    generalize heldE L k = EH at *
    generalize fholdsE L k = EF at *
    generalize resL L k = NL at *
    generalize inF L k top = IN at *
    generalize resA L k o m = A at *
    generalize resD L k = D at *
    obtain ⟨n, hn⟩ : ∃ n, L.length = n := ⟨_, rfl⟩
    rw [hn] at hN DA DD DL RA RD RL RC DC DH RH DW RW ⊢
    clear hn
    obtain ⟨al, hal⟩ : ∃ n, A.length = n := ⟨_, rfl⟩
    rw [hal] at DA RA DQ
    clear hal
    obtain ⟨dl, hdl⟩ : ∃ n, D.length = n := ⟨_, rfl⟩
    rw [hdl] at DD RD DQD
    clear hdl
    go_enter Try.func3, Try.ntmps3
    have HBw : Hid (Below w.heap.size w w) := Below.refl _ _
    go_wp2_with fail
    refine Calls.mono (DA.out _ (HL.out.below HBw.out)) ?_
    rintro e w1 ⟨va, vc, rfl, hb, hF, _⟩
    have HBw1 : Hid (Below w.heap.size w w1) := HBw.out.trans (hb.mono HBw.out.size)
    have KAw1 : Hid (FrsAt w1 va A) := hF
    clear hF
    clear hb
    go_wp2_with fail
    refine Calls.mono (DD.out _ (HL.out.below HBw1.out)) ?_
    rintro e w2 ⟨vd, vcd, rfl, hb, hF, _⟩
    have HBw2 : Hid (Below w.heap.size w w2) := HBw1.out.trans (hb.mono HBw1.out.size)
    have KAw2 : Hid (FrsAt w2 va A) := KAw1.out.below hb
    have KDw2 : Hid (FrsAt w2 vd D) := hF
    clear hF
    clear hb
    go_wp2_with fail
    refine Calls.mono (DL.out _ (HL.out.below HBw2.out)) ?_
    rintro e w3 ⟨rfl, hb⟩
    have HBw3 : Hid (Below w.heap.size w w3) := HBw2.out.trans (hb.mono HBw2.out.size)
    have KAw3 : Hid (FrsAt w3 va A) := KAw2.out.below hb
    have KDw3 : Hid (FrsAt w3 vd D) := KDw2.out.below hb
    clear hb
    go_wp2_with fail
    refine Calls.mono (RA.out _ (HL.out.below HBw3.out)) ?_
    rintro e w4 ⟨vA, vcA, rfl, hb, hF⟩
    have HBw4 : Hid (Below w.heap.size w w4) := HBw3.out.trans (hb.mono HBw3.out.size)
    have KAw4 : Hid (FrsAt w4 va A) := KAw3.out.below hb
    have KDw4 : Hid (FrsAt w4 vd D) := KDw3.out.below hb
    have KBw4 : Hid (FrsAt w4 vA A) := hF
    clear hF
    clear hb
    go_wp2_with fail
    refine Calls.mono (RD.out _ (HL.out.below HBw4.out)) ?_
    rintro e w5 ⟨vD, vcD, rfl, hb, hF⟩
    have HBw5 : Hid (Below w.heap.size w w5) := HBw4.out.trans (hb.mono HBw4.out.size)
    have KAw5 : Hid (FrsAt w5 va A) := KAw4.out.below hb
    have KDw5 : Hid (FrsAt w5 vd D) := KDw4.out.below hb
    have KBw5 : Hid (FrsAt w5 vA A) := KBw4.out.below hb
    have KCw5 : Hid (FrsAt w5 vD D) := hF
    clear hF
    clear hb
    go_wp2_with fail
    refine Calls.mono (RL.out _ (HL.out.below HBw5.out)) ?_
    rintro e w6 ⟨rfl, hb⟩
    have HBw6 : Hid (Below w.heap.size w w6) := HBw5.out.trans (hb.mono HBw5.out.size)
    have KAw6 : Hid (FrsAt w6 va A) := KAw5.out.below hb
    have KDw6 : Hid (FrsAt w6 vd D) := KDw5.out.below hb
    have KBw6 : Hid (FrsAt w6 vA A) := KBw5.out.below hb
    have KCw6 : Hid (FrsAt w6 vD D) := KCw5.out.below hb
    clear hb
    go_wp2_with fail
    refine Calls.mono (RC.out _ (HL.out.below HBw6.out)) ?_
    rintro e w7 ⟨rfl, hb⟩
    have HBw7 : Hid (Below w.heap.size w w7) := HBw6.out.trans (hb.mono HBw6.out.size)
    have KAw7 : Hid (FrsAt w7 va A) := KAw6.out.below hb
    have KDw7 : Hid (FrsAt w7 vd D) := KDw6.out.below hb
    have KBw7 : Hid (FrsAt w7 vA A) := KBw6.out.below hb
    have KCw7 : Hid (FrsAt w7 vD D) := KCw6.out.below hb
    clear hb
    go_wp2_with fail
    refine Calls.mono (DF.out _) ?_
    rintro e w8 ⟨rfl, hb⟩
    have HBw8 : Hid (Below w.heap.size w w8) := HBw7.out.trans (hb.mono HBw7.out.size)
    have KAw8 : Hid (FrsAt w8 va A) := KAw7.out.below hb
    have KDw8 : Hid (FrsAt w8 vd D) := KDw7.out.below hb
    have KBw8 : Hid (FrsAt w8 vA A) := KBw7.out.below hb
    have KCw8 : Hid (FrsAt w8 vD D) := KCw7.out.below hb
    clear hb
    go_wp2_with fail
    refine Calls.mono (DC.out _ (HL.out.below HBw8.out)) ?_
    rintro e w9 ⟨rfl, hb⟩
    have HBw9 : Hid (Below w.heap.size w w9) := HBw8.out.trans (hb.mono HBw8.out.size)
    have KAw9 : Hid (FrsAt w9 va A) := KAw8.out.below hb
    have KDw9 : Hid (FrsAt w9 vd D) := KDw8.out.below hb
    have KBw9 : Hid (FrsAt w9 vA A) := KBw8.out.below hb
    have KCw9 : Hid (FrsAt w9 vD D) := KCw8.out.below hb
    clear hb
    go_wp2_with fail
    refine Calls.mono (DH.out _ (HL.out.below HBw9.out)) ?_
    rintro e w0 ⟨rfl, hw0⟩
    have hw00 := hw0.symm
    clear hw0
    subst hw00
    go_wp2_with fail
    refine Calls.mono (RH.out _ (HL.out.below HBw9.out)) ?_
    rintro e w0 ⟨rfl, hw0⟩
    have hw00 := hw0.symm
    clear hw0
    subst hw00
    go_wp2_with fail
    refine Calls.mono (DW.out _ (HL.out.below HBw9.out)) ?_
    rintro e w0 ⟨rfl, hw0⟩
    have hw00 := hw0.symm
    clear hw0
    subst hw00
    go_wp2_with fail
    refine Calls.mono (RW.out _ (HL.out.below HBw9.out)) ?_
    rintro e w0 ⟨rfl, hw0⟩
    have hw00 := hw0.symm
    clear hw0
    subst hw00
    go_wp2_with fail
    refine Calls.mono (DQ.out va vA vc vcA _ KAw9.out KBw9.out) ?_
    rintro e w10 ⟨rfl, hb⟩
    have HBw10 : Hid (Below w.heap.size w w10) := HBw9.out.trans (hb.mono HBw9.out.size)
    have KDw10 : Hid (FrsAt w10 vd D) := KDw9.out.below hb
    have KCw10 : Hid (FrsAt w10 vD D) := KCw9.out.below hb
    clear hb
    go_wp2_with fail
    refine Calls.mono (DQD.out vd vD vcd vcD _ KDw10.out KCw10.out) ?_
    rintro e w11 ⟨rfl, hb⟩
    have HBw11 : Hid (Below w.heap.size w w11) := HBw10.out.trans (hb.mono HBw10.out.size)
    clear hb
    go_wp2_with fail
    go_ret
    exact ⟨by simp, HBw11.out⟩
  · have e2 : decide (fcheckE L = 0) = false := decide_eq_false hE
    have e3 : (fcheckE L == 0) = false := beq_eq_false_iff_ne.2 hE
    clear hL
    generalize fcheckE L = E at *
    generalize attE L k o m = EA at *
    generalize heldE L k = EH at *
    generalize fholdsE L k = EF at *
    generalize resL L k = NL at *
    generalize inF L k top = IN at *
    generalize resA L k o m = A at *
    generalize resD L k = D at *
    obtain ⟨n, hn⟩ : ∃ n, L.length = n := ⟨_, rfl⟩
    rw [hn] at hN DA DD DL RA RD RL RC DC DH RH DW ⊢
    clear hn
    obtain ⟨al, hal⟩ : ∃ n, A.length = n := ⟨_, rfl⟩
    rw [hal] at DA RA DQ
    clear hal
    obtain ⟨dl, hdl⟩ : ∃ n, D.length = n := ⟨_, rfl⟩
    rw [hdl] at DD RD DQD
    clear hdl
    go_enter Try.func3, Try.ntmps3
    have HBw : Hid (Below w.heap.size w w) := Below.refl _ _
    go_wp2_with fail
    refine Calls.mono (DA.out _ (HL.out.below HBw.out)) ?_
    rintro e w1 ⟨va, vc, rfl, hb, hF, _⟩
    have HBw1 : Hid (Below w.heap.size w w1) := HBw.out.trans (hb.mono HBw.out.size)
    have KAw1 : Hid (FrsAt w1 va A) := hF
    clear hF
    clear hb
    go_wp2_with fail
    refine Calls.mono (DD.out _ (HL.out.below HBw1.out)) ?_
    rintro e w2 ⟨vd, vcd, rfl, hb, hF, _⟩
    have HBw2 : Hid (Below w.heap.size w w2) := HBw1.out.trans (hb.mono HBw1.out.size)
    have KAw2 : Hid (FrsAt w2 va A) := KAw1.out.below hb
    have KDw2 : Hid (FrsAt w2 vd D) := hF
    clear hF
    clear hb
    go_wp2_with fail
    refine Calls.mono (DL.out _ (HL.out.below HBw2.out)) ?_
    rintro e w3 ⟨rfl, hb⟩
    have HBw3 : Hid (Below w.heap.size w w3) := HBw2.out.trans (hb.mono HBw2.out.size)
    have KAw3 : Hid (FrsAt w3 va A) := KAw2.out.below hb
    have KDw3 : Hid (FrsAt w3 vd D) := KDw2.out.below hb
    clear hb
    go_wp2_with fail
    refine Calls.mono (RA.out _ (HL.out.below HBw3.out)) ?_
    rintro e w4 ⟨vA, vcA, rfl, hb, hF⟩
    have HBw4 : Hid (Below w.heap.size w w4) := HBw3.out.trans (hb.mono HBw3.out.size)
    have KAw4 : Hid (FrsAt w4 va A) := KAw3.out.below hb
    have KDw4 : Hid (FrsAt w4 vd D) := KDw3.out.below hb
    have KBw4 : Hid (FrsAt w4 vA A) := hF
    clear hF
    clear hb
    go_wp2_with fail
    refine Calls.mono (RD.out _ (HL.out.below HBw4.out)) ?_
    rintro e w5 ⟨vD, vcD, rfl, hb, hF⟩
    have HBw5 : Hid (Below w.heap.size w w5) := HBw4.out.trans (hb.mono HBw4.out.size)
    have KAw5 : Hid (FrsAt w5 va A) := KAw4.out.below hb
    have KDw5 : Hid (FrsAt w5 vd D) := KDw4.out.below hb
    have KBw5 : Hid (FrsAt w5 vA A) := KBw4.out.below hb
    have KCw5 : Hid (FrsAt w5 vD D) := hF
    clear hF
    clear hb
    go_wp2_with fail
    refine Calls.mono (RL.out _ (HL.out.below HBw5.out)) ?_
    rintro e w6 ⟨rfl, hb⟩
    have HBw6 : Hid (Below w.heap.size w w6) := HBw5.out.trans (hb.mono HBw5.out.size)
    have KAw6 : Hid (FrsAt w6 va A) := KAw5.out.below hb
    have KDw6 : Hid (FrsAt w6 vd D) := KDw5.out.below hb
    have KBw6 : Hid (FrsAt w6 vA A) := KBw5.out.below hb
    have KCw6 : Hid (FrsAt w6 vD D) := KCw5.out.below hb
    clear hb
    go_wp2_with fail
    refine Calls.mono (RC.out _ (HL.out.below HBw6.out)) ?_
    rintro e w7 ⟨rfl, hb⟩
    have HBw7 : Hid (Below w.heap.size w w7) := HBw6.out.trans (hb.mono HBw6.out.size)
    have KAw7 : Hid (FrsAt w7 va A) := KAw6.out.below hb
    have KDw7 : Hid (FrsAt w7 vd D) := KDw6.out.below hb
    have KBw7 : Hid (FrsAt w7 vA A) := KBw6.out.below hb
    have KCw7 : Hid (FrsAt w7 vD D) := KCw6.out.below hb
    clear hb
    go_wp2_with fail
    refine Calls.mono (DF.out _) ?_
    rintro e w8 ⟨rfl, hb⟩
    have HBw8 : Hid (Below w.heap.size w w8) := HBw7.out.trans (hb.mono HBw7.out.size)
    have KAw8 : Hid (FrsAt w8 va A) := KAw7.out.below hb
    have KDw8 : Hid (FrsAt w8 vd D) := KDw7.out.below hb
    have KBw8 : Hid (FrsAt w8 vA A) := KBw7.out.below hb
    have KCw8 : Hid (FrsAt w8 vD D) := KCw7.out.below hb
    clear hb
    go_wp2_with fail
    refine Calls.mono (DC.out _ (HL.out.below HBw8.out)) ?_
    rintro e w9 ⟨rfl, hb⟩
    have HBw9 : Hid (Below w.heap.size w w9) := HBw8.out.trans (hb.mono HBw8.out.size)
    have KAw9 : Hid (FrsAt w9 va A) := KAw8.out.below hb
    have KDw9 : Hid (FrsAt w9 vd D) := KDw8.out.below hb
    have KBw9 : Hid (FrsAt w9 vA A) := KBw8.out.below hb
    have KCw9 : Hid (FrsAt w9 vD D) := KCw8.out.below hb
    clear hb
    go_wp2_with fail
    refine Calls.mono (DH.out _ (HL.out.below HBw9.out)) ?_
    rintro e w0 ⟨rfl, hw0⟩
    have hw00 := hw0.symm
    clear hw0
    subst hw00
    go_wp2_with fail
    refine Calls.mono (RH.out _ (HL.out.below HBw9.out)) ?_
    rintro e w0 ⟨rfl, hw0⟩
    have hw00 := hw0.symm
    clear hw0
    subst hw00
    go_wp2_with fail
    refine Calls.mono (DW.out _ (HL.out.below HBw9.out)) ?_
    rintro e w0 ⟨rfl, hw0⟩
    have hw00 := hw0.symm
    clear hw0
    subst hw00
    go_wp2_with fail
    refine Calls.mono (DQ.out va vA vc vcA _ KAw9.out KBw9.out) ?_
    rintro e w10 ⟨rfl, hb⟩
    have HBw10 : Hid (Below w.heap.size w w10) := HBw9.out.trans (hb.mono HBw9.out.size)
    have KDw10 : Hid (FrsAt w10 vd D) := KDw9.out.below hb
    have KCw10 : Hid (FrsAt w10 vD D) := KCw9.out.below hb
    clear hb
    go_wp2_with fail
    refine Calls.mono (DQD.out vd vD vcd vcD _ KDw10.out KCw10.out) ?_
    rintro e w11 ⟨rfl, hb⟩
    have HBw11 : Hid (Below w.heap.size w w11) := HBw10.out.trans (hb.mono HBw10.out.size)
    clear hb
    go_wp2_with fail
    go_ret
    exact ⟨by simp, HBw11.out⟩
end Go.Proofs.Ytfnfcldkadfpmaa
