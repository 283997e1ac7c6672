/-
  FrameCount at whatever arguments.
-/
import Derived.Test.YtfnfcldkadfpmaaJFg
namespace Go.Proofs.Ytfnfcldkadfpmaa
open Go.RowKit
set_option linter.unusedVariables false

theorem cnt_le (L : List Fr) (j : Int) : cntF L j ≤ L.length := by unfold cntF; exact List.countP_le_length
theorem alive_le (L : List Fr) (j : Nat) : aliveF (L.take j) ≤ j := by
  unfold aliveF
  have h1 := List.countP_le_length (p := fun f : Fr => !f.g) (l := L.take j)
  have h2 : (L.take j).length ≤ j := by rw [List.length_take]; omega
  omega

set_option maxRecDepth 100000 in
set_option maxHeartbeats 2000000 in
theorem frameCount_any (a : Option Addr) (c : Nat) (L : List Fr) (w : World) (hN : L.length ≤ 9223372036854775807) (hL : FrsAt w a L) :
    Calls Try.prog 5 #[.slice a L.length c] w fun e w' => e = .returned (.bool true) ∧ Below w.heap.size w w' := by
  have DF : Hid FramedOk := framed_ok
  have DC : Hid (∀ W, FrsAt W a L → _) := fun W hW => fcheck_any a c L W hN hW
  have HL : Hid (FrsAt w a L) := hL
  by_cases hE : fcheckE L = 0
  · rw [hE] at DC
    have R := fcheck_zero.1 hE
    have hfew := R.few
    by_cases h0 : L.length = 0
    · rw [h0] at DC ⊢
      clear hL hE R hfew h0
      go_enter Try.func5, Try.ntmps5
      go_wp2_with fail
      refine Calls.mono (DF.out _) ?_
      rintro e w1 ⟨rfl, hb1⟩
      have HB1 : Hid (Below w.heap.size w w1) := hb1
      clear hb1
      go_wp2_with fail
      refine Calls.mono (DC.out _ (HL.out.below HB1.out)) ?_
      rintro e w2 ⟨rfl, hb2⟩
      have HB2 : Hid (Below w.heap.size w w2) := HB1.out.trans (hb2.mono HB1.out.size)
      clear hb2
      go_wp2_with fail
      refine Calls.mono (DF.out _) ?_
      rintro e w3 ⟨rfl, hb3⟩
      have HB3 : Hid (Below w.heap.size w w3) := HB2.out.trans (hb3.mono HB2.out.size)
      clear hb3
      go_wp2_with fail
      go_ret
      exact ⟨rfl, HB3.out⟩
    · obtain ⟨b, o, ea, _, _, _, _, c4⟩ := hL 0 (by omega)
      subst ea
      simp only [Nat.zero_mul, Nat.add_zero] at c4
      have hn0 : ¬ (L.length : Int) = 0 := by omega
      have hn1 : decide ((L.length : Int) = 0) = false := decide_eq_false hn0
      have hn2 : (0 : Int) < (L.length : Int) := by omega
      have hn3 : ((L.length : Int) == 0) = false := beq_eq_false_iff_ne.2 hn0
      cases hg : (fr L 0).g with
      | true =>
        rw [hg] at c4
        clear hL hE R hg h0
        obtain ⟨n, hn⟩ : ∃ n, L.length = n := ⟨_, rfl⟩
        rw [hn] at hN hfew DC hn0 hn1 hn2 hn3 ⊢
        clear hn
        go_enter Try.func5, Try.ntmps5
        go_wp2_with fail
        refine Calls.mono (DF.out _) ?_
        rintro e w1 ⟨rfl, hb1⟩
        have HB1 : Hid (Below w.heap.size w w1) := hb1
        replace c4 := keepC c4 hb1
        clear hb1
        go_wp2_with fail
        refine Calls.mono (DC.out _ (HL.out.below HB1.out)) ?_
        rintro e w2 ⟨rfl, hb2⟩
        have HB2 : Hid (Below w.heap.size w w2) := HB1.out.trans (hb2.mono HB1.out.size)
        replace c4 := keepC c4 hb2
        clear hb2
        go_wp2_with fail
        refine Calls.mono (DF.out _) ?_
        rintro e w3 ⟨rfl, hb3⟩
        have HB3 : Hid (Below w.heap.size w w3) := HB2.out.trans (hb3.mono HB2.out.size)
        clear hb3
        go_wp2_with fail
        go_ret
        exact ⟨rfl, HB3.out⟩
      | false =>
        rw [hg] at c4
        have DL : Hid (∀ (j : Nat) (W : World), j < L.length → (fr L j).g = false → FrsAt W (some ⟨b, o, none⟩) L → Calls Try.prog 8 #[.slice (some ⟨b, o, none⟩) L.length c, .int .i64 j] W fun e w' => e = .returned (.tuple #[.int .i64 (lenF L j : Nat), .int .i64 0]) ∧ Below W.heap.size W w') := fun j W hj hgj hW => by
          refine length_ok (some ⟨b, o, none⟩) c L j W hfew hW ?_
          unfold heldE
          rw [if_pos hE]
          unfold fholdsE
          rw [if_neg (by omega), Int.toNat_natCast, if_neg (by rw [hgj]; simp)]
        have ST : Hid (∀ j : Nat, cntF L ((j : Int) + 1) = cntF L j + lenF L j) := cnt_step L
        have LG : Hid (∀ j : Nat, j < L.length → (fr L j).g = true → lenF L j = 0) := fun j hj h => len_gone R hj h
        have AS : Hid (∀ j : Nat, j < L.length → aliveF (L.take (j + 1)) = aliveF (L.take j) + (if (fr L j).g = true then 0 else 1)) := fun j hj => alive_step hj
        have EN : Hid (cntF L L.length + 1 = aliveF (L.take L.length)) := (by rw [List.take_length]; exact cnt_end R (by omega) hg : cntF L L.length + 1 = aliveF (L.take L.length))
        have CL : Hid (∀ j : Int, cntF L j ≤ L.length) := cnt_le L
        have AL : Hid (∀ j : Nat, aliveF (L.take j) ≤ j) := alive_le L
        have Z0 : Hid (cntF L ((0 : Nat) : Int) = 0) := cnt_zero L
        have A0 : Hid ((-1 : Int) = aliveF (L.take 0) - 1) := (by simp [aliveF] : (-1 : Int) = aliveF (L.take 0) - 1)
        clear hL hE R hg h0
        obtain ⟨n, hn⟩ : ∃ n, L.length = n := ⟨_, rfl⟩
        have HN : Hid (L.length = n) := hn
        rw [hn] at hN hfew DC DL LG AS EN CL hn0 hn1 hn2 hn3 ⊢
        clear hn
        go_enter Try.func5, Try.ntmps5
        go_wp2_with fail
        refine Calls.mono (DF.out _) ?_
        rintro e w1 ⟨rfl, hb1⟩
        have HB1 : Hid (Below w.heap.size w w1) := hb1
        replace c4 := keepC c4 hb1
        clear hb1
        go_wp2_with fail
        refine Calls.mono (DC.out _ (HL.out.below HB1.out)) ?_
        rintro e w2 ⟨rfl, hb2⟩
        have HB2 : Hid (Below w.heap.size w w2) := HB1.out.trans (hb2.mono HB1.out.size)
        replace c4 := keepC c4 hb2
        clear hb2
        go_wp2_with fail
        go_loopg [3, 4, 30] n (fun g s3 s4 s30 wr => ∃ (i q : Nat) (Z : Int), i ≤ n ∧ n - i ≤ g ∧ s30 = .int .i64 i ∧ s3 = .int .i64 q ∧ s4 = .int .i64 Z ∧ q ≤ n ∧ -1 ≤ Z ∧ Z < i ∧ Hid (cntF L i = q) ∧ Hid (Z = aliveF (L.take i) - 1) ∧ Hid (Below w.heap.size w wr))
        case atStart => exact ⟨0, 0, -1, by omega, by omega, rfl, rfl, rfl, by omega, by omega, by omega, Z0, A0, HB2⟩
        case round =>
          obtain ⟨i, q, Z, hi, hgi, rfl, rfl, rfl, hq, hZ1, hZ2, HQ, HZ, HBr⟩ := hrel
          clear Z0 A0 HB2
          by_cases hlt : i < n
          · have hlt2 : (i : Int) < (n : Int) := by omega
            obtain ⟨b', o', ea, e0, e1, e2, e3, e4⟩ := (HL.out.below HBr.out) i (by rw [HN.out]; exact hlt)
            cases ea
            have q0 := World.block_lt_of_cell? _ _ e0
            have sti := ST.out i
            rw [HQ.out] at sti
            have asi := AS.out i hlt
            have lgi := LG.out i hlt
            have cli := CL.out ((i : Int) + 1)
            have dli := fun W hgj hW => DL.out i W hlt hgj hW
            have zi := HZ.out
            have HBA : Hid (∀ o1, Below w.heap.size w (wr.alloc o1)) := fun o1 => HBr.out.trans ((one_belowS wr o1).mono HBr.out.size)
            generalize fr L i = x at *
            obtain ⟨xp, xo, xm, xt, xg⟩ := x
            dsimp only at e0 e1 e2 e3 e4 asi lgi dli
            cases xg
            · rw [if_neg (by simp)] at asi
              have HQ2 : Hid (cntF L ((i : Int) + 1) = q + lenF L i) := sti
              have HZ2 : Hid (Z + 1 = aliveF (L.take (i + 1)) - 1) := (by rw [asi]; omega : Z + 1 = (aliveF (L.take (i + 1)) : Int) - 1)
              have hle : q + lenF L i ≤ n := by omega
              have dl2 := fun W hW => dli W rfl hW
              have DLI : Hid _ := dl2
              clear sti asi lgi cli dli zi dl2 HQ HZ
              generalize lenF L i = y at *
              go_wp2_with fail
              refine Calls.mono (DLI.out _ (HL.out.below (HBA.out _))) ?_
              rintro e w5 ⟨rfl, hb5⟩
              have HB5 : Hid (Below w.heap.size w w5) := (HBA.out _).trans (hb5.mono (HBA.out _).size)
              clear hb5
              go_wp2_with fail
              go_roundg (n - (i + 1))
              case measure => omega
              case rel => exact ⟨i + 1, q + y, Z + 1, by omega, by omega, by go_num, by go_num, by go_num, hle, by omega, by omega, HQ2, HZ2, HB5⟩
            · rw [if_pos rfl] at asi
              rw [lgi rfl, Nat.add_zero] at sti
              have HQ2 : Hid (cntF L ((i : Int) + 1) = q) := sti
              have HZ2 : Hid (Z = aliveF (L.take (i + 1)) - 1) := (by rw [asi]; omega : Z = (aliveF (L.take (i + 1)) : Int) - 1)
              clear sti asi lgi cli dli zi HQ HZ
              go_wp2_with fail
              go_roundg (n - (i + 1))
              case measure => omega
              case rel => exact ⟨i + 1, q, Z, by omega, by omega, by go_num, rfl, rfl, hq, hZ1, by omega, HQ2, HZ2, HBA.out _⟩
          · have hie : i = n := by omega
            subst hie
            have HEE : Hid ((q : Int) = Z) := (by have h1 := EN.out; have h2 := HZ.out; have h3 := HQ.out; omega : (q : Int) = Z)
            have hqz := HEE.out
            clear HQ HZ EN HEE
            subst hqz
            go_wp2_with fail
            go_ret
            exact ⟨by simp, HBr.out⟩
  · have e2 : decide (fcheckE L = 0) = false := decide_eq_false hE
    clear hL
    generalize fcheckE L = E at *
    obtain ⟨n, hn⟩ : ∃ n, L.length = n := ⟨_, rfl⟩
    rw [hn] at hN DC ⊢
    clear hn
    go_enter Try.func5, Try.ntmps5
    go_wp2_with fail
    refine Calls.mono (DF.out _) ?_
    rintro e w1 ⟨rfl, hb1⟩
    have HB1 : Hid (Below w.heap.size w w1) := hb1
    clear hb1
    go_wp2_with fail
    refine Calls.mono (DC.out _ (HL.out.below HB1.out)) ?_
    rintro e w2 ⟨rfl, hb2⟩
    have HB2 : Hid (Below w.heap.size w w2) := HB1.out.trans (hb2.mono HB1.out.size)
    clear hb2
    go_wp2_with fail
    refine Calls.mono (DF.out _) ?_
    rintro e w3 ⟨rfl, hb3⟩
    have HB3 : Hid (Below w.heap.size w w3) := HB2.out.trans (hb3.mono HB2.out.size)
    clear hb3
    go_wp2_with fail
    go_ret
    exact ⟨rfl, HB3.out⟩
end Go.Proofs.Ytfnfcldkadfpmaa
