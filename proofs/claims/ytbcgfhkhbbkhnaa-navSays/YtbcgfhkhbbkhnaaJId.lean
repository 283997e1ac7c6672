/-
  NavSays at whatever arguments.
-/
import Derived.Test.YtbcgfhkhbbkhnaaJIb
import Derived.Test.YtbcgfhkhbbkhnaaJIc
namespace Go.Proofs.Ytbcgfhkhbbkhnaa
open Go.RowKit
set_option linter.unusedVariables false

set_option maxRecDepth 100000 in
set_option maxHeartbeats 4000000 in
theorem navSays_any (hG : GoAns) (hS : StillAns) (a : Option Addr) (c : Nat) (L : List Fr) (k o t : Int) (w : World) (hN : L.length ≤ 9223372036854775807) (hL : FrsAt w a L) :
    Calls Try.prog 3 #[.slice a L.length c, .int .i64 k, .int .i64 o, .int .i64 t] w fun e w' => e = .returned (.bool true) ∧ Below w.heap.size w w' := by
  have HL : Hid (FrsAt w a L) := hL
  have DO : Hid GoneOk := gone_ok hG hS
  have DG : Hid (∀ W, FrsAt W a L → _) := fun W hW => hG a c L k o W hN hW
  have RD : Hid (∀ W, FrsAt W a L → _) := fun W hW => rgone_any a c L k o W hN hW
  have DS : Hid (∀ W, FrsAt W a L → _) := fun W hW => hS a c L k t W hN hW
  have RH : Hid (∀ W, FrsAt W a L → _) := fun W hW => rfholds_any a c L k W hN hW
  have DQ : Hid (∀ va vA vc vcA W, FrsAt W va (resG L k o) → FrsAt W vA (resG L k o) → _) := fun va vA vc vcA W h1 h2 => equalFrs_same va vA vc vcA (resG L k o) W (resG_len L k o hN) h1 h2
  clear hL hG hS
  unfold stillF at DS
  generalize goE L k o = E at *
  generalize resG L k o = RG at *
  generalize RG.length = rl at *
  by_cases h : fholdsE L k = 0
  · obtain ⟨q, rfl, hq, hg0⟩ := holds_zero h
    clear hg0
    rw [decide_eq_true h, Bool.true_and, Int.toNat_natCast] at DS
    rw [h] at RH
    have hq2 : (q : Int) < (L.length : Int) := by omega
    clear h
    by_cases ht : (fr L q).t = t
    · rw [decide_eq_true ht] at DS
      obtain ⟨n, hn⟩ : ∃ n, L.length = n := ⟨_, rfl⟩
      have HN : Hid (L.length = n) := hn
      rw [hn] at hN hq hq2 DG RD DS RH ⊢
      clear hn
      go_enter Try.func3, Try.ntmps3
      go_wp2_with fail
      refine Calls.mono (DG.out _ HL.out) ?_
      rintro e w1 ⟨va, vc, rfl, hb, hF⟩
      have HB1 : Hid (Below w.heap.size w w1) := hb
      have HF1 : Hid (FrsAt w1 va RG) := hF
      clear hb hF
      go_wp2_with fail
      refine Calls.mono (RD.out _ (HL.out.below HB1.out)) ?_
      rintro e w2 ⟨va2, vc2, rfl, hb, hF⟩
      have HB2 : Hid (Below w.heap.size w w2) := HB1.out.trans (hb.mono HB1.out.size)
      have K2 : Hid (FrsAt w2 va RG ∧ FrsAt w2 va2 RG) := ⟨HF1.out.below hb, hF⟩
      clear hb hF HF1
      go_wp2_with fail
      refine Calls.mono (DO.out _) ?_
      rintro e w3 ⟨rfl, hb⟩
      have HB3 : Hid (Below w.heap.size w w3) := HB2.out.trans (hb.mono HB2.out.size)
      have K3 : Hid (FrsAt w3 va RG ∧ FrsAt w3 va2 RG) := ⟨K2.out.1.below hb, K2.out.2.below hb⟩
      clear hb K2
      go_wp2_with fail
      refine Calls.mono (DQ.out va va2 vc vc2 _ K3.out.1 K3.out.2) ?_
      rintro e w4 ⟨rfl, hb⟩
      have HB4 : Hid (Below w.heap.size w w4) := HB3.out.trans (hb.mono HB3.out.size)
      clear hb K3
      go_wp2_with fail
      refine Calls.mono (DS.out _ (HL.out.below HB4.out)) ?_
      rintro e w5 ⟨rfl, hb⟩
      have HB5 : Hid (Below w.heap.size w w5) := HB4.out.trans (hb.mono HB4.out.size)
      clear hb
      go_wp2_with fail
      refine Calls.mono (RH.out _ (HL.out.below HB5.out)) ?_
      rintro e w6 ⟨rfl, hw6⟩
      have hw7 := hw6.symm
      clear hw6
      subst hw7
      obtain ⟨b, oo, ea, c0, c1, c2, c3, c4⟩ := (HL.out.below HB5.out) q (by rw [HN.out]; exact hq)
      rw [ht] at c3
      subst ea
      clear ht
      go_wp2_with fail
      go_ret
      exact ⟨rfl, HB5.out⟩
    · rw [decide_eq_false ht] at DS
      obtain ⟨n, hn⟩ : ∃ n, L.length = n := ⟨_, rfl⟩
      have HN : Hid (L.length = n) := hn
      rw [hn] at hN hq hq2 DG RD DS RH ⊢
      clear hn
      have hta : ((fr L q).t == t) = false := by simp [ht]
      have htb : decide ((fr L q).t = t) = false := decide_eq_false ht
      go_enter Try.func3, Try.ntmps3
      go_wp2_with fail
      refine Calls.mono (DG.out _ HL.out) ?_
      rintro e w1 ⟨va, vc, rfl, hb, hF⟩
      have HB1 : Hid (Below w.heap.size w w1) := hb
      have HF1 : Hid (FrsAt w1 va RG) := hF
      clear hb hF
      go_wp2_with fail
      refine Calls.mono (RD.out _ (HL.out.below HB1.out)) ?_
      rintro e w2 ⟨va2, vc2, rfl, hb, hF⟩
      have HB2 : Hid (Below w.heap.size w w2) := HB1.out.trans (hb.mono HB1.out.size)
      have K2 : Hid (FrsAt w2 va RG ∧ FrsAt w2 va2 RG) := ⟨HF1.out.below hb, hF⟩
      clear hb hF HF1
      go_wp2_with fail
      refine Calls.mono (DO.out _) ?_
      rintro e w3 ⟨rfl, hb⟩
      have HB3 : Hid (Below w.heap.size w w3) := HB2.out.trans (hb.mono HB2.out.size)
      have K3 : Hid (FrsAt w3 va RG ∧ FrsAt w3 va2 RG) := ⟨K2.out.1.below hb, K2.out.2.below hb⟩
      clear hb K2
      go_wp2_with fail
      refine Calls.mono (DQ.out va va2 vc vc2 _ K3.out.1 K3.out.2) ?_
      rintro e w4 ⟨rfl, hb⟩
      have HB4 : Hid (Below w.heap.size w w4) := HB3.out.trans (hb.mono HB3.out.size)
      clear hb K3
      go_wp2_with fail
      refine Calls.mono (DS.out _ (HL.out.below HB4.out)) ?_
      rintro e w5 ⟨rfl, hb⟩
      have HB5 : Hid (Below w.heap.size w w5) := HB4.out.trans (hb.mono HB4.out.size)
      clear hb
      go_wp2_with fail
      refine Calls.mono (RH.out _ (HL.out.below HB5.out)) ?_
      rintro e w6 ⟨rfl, hw6⟩
      have hw7 := hw6.symm
      clear hw6
      subst hw7
      obtain ⟨b, oo, ea, c0, c1, c2, c3, c4⟩ := (HL.out.below HB5.out) q (by rw [HN.out]; exact hq)
      subst ea
      clear c0 c1 c2 c4
      generalize (fr L q).t = y at *
      go_wp2_with fail
      go_ret
      exact ⟨rfl, HB5.out⟩
  · rw [decide_eq_false h, Bool.false_and] at DS
    generalize fholdsE L k = F at *
    have ha : decide (F = 0) = false := decide_eq_false h
    have hb : (F == 0) = false := by simp [h]
    generalize L.length = n at *
    go_enter Try.func3, Try.ntmps3
    go_wp2_with fail
    refine Calls.mono (DG.out _ HL.out) ?_
    rintro e w1 ⟨va, vc, rfl, hb, hF⟩
    have HB1 : Hid (Below w.heap.size w w1) := hb
    have HF1 : Hid (FrsAt w1 va RG) := hF
    clear hb hF
    go_wp2_with fail
    refine Calls.mono (RD.out _ (HL.out.below HB1.out)) ?_
    rintro e w2 ⟨va2, vc2, rfl, hb, hF⟩
    have HB2 : Hid (Below w.heap.size w w2) := HB1.out.trans (hb.mono HB1.out.size)
    have K2 : Hid (FrsAt w2 va RG ∧ FrsAt w2 va2 RG) := ⟨HF1.out.below hb, hF⟩
    clear hb hF HF1
    go_wp2_with fail
    refine Calls.mono (DO.out _) ?_
    rintro e w3 ⟨rfl, hb⟩
    have HB3 : Hid (Below w.heap.size w w3) := HB2.out.trans (hb.mono HB2.out.size)
    have K3 : Hid (FrsAt w3 va RG ∧ FrsAt w3 va2 RG) := ⟨K2.out.1.below hb, K2.out.2.below hb⟩
    clear hb K2
    go_wp2_with fail
    refine Calls.mono (DQ.out va va2 vc vc2 _ K3.out.1 K3.out.2) ?_
    rintro e w4 ⟨rfl, hb⟩
    have HB4 : Hid (Below w.heap.size w w4) := HB3.out.trans (hb.mono HB3.out.size)
    clear hb K3
    go_wp2_with fail
    refine Calls.mono (DS.out _ (HL.out.below HB4.out)) ?_
    rintro e w5 ⟨rfl, hb⟩
    have HB5 : Hid (Below w.heap.size w w5) := HB4.out.trans (hb.mono HB4.out.size)
    clear hb
    go_wp2_with fail
    refine Calls.mono (RH.out _ (HL.out.below HB5.out)) ?_
    rintro e w6 ⟨rfl, hw6⟩
    have hw7 := hw6.symm
    clear hw6
    subst hw7
    go_wp2_with fail
    go_ret
    exact ⟨rfl, HB5.out⟩
end Go.Proofs.Ytbcgfhkhbbkhnaa
