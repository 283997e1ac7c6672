/-
  The reference's CheckGraph.
-/
import Derived.Test.YtgjfmepbphfjoaaUCb
namespace Go.Proofs.Ytgjfmepbphfjoaa
open Go.RowKit

theorem rin_anyC (x a b : Int) (w : World) :
    Calls Try.prog 29 #[.int .i64 x, .int .i64 a, .int .i64 b] w fun e w' => e = .returned (.bool (decide (a ≤ x ∧ x ≤ b))) ∧ w' = w := by
  by_cases h1 : a ≤ x
  · by_cases h2 : x ≤ b
    · rw [decide_eq_true ⟨h1, h2⟩]
      go_enter Try.func29, Try.ntmps29
      go_wp2
      go_ret
      exact ⟨rfl, rfl⟩
    · rw [decide_eq_false (fun h => h2 h.2)]
      have h3 : decide (x ≤ b) = false := decide_eq_false h2
      go_enter Try.func29, Try.ntmps29
      go_wp2
      go_ret
      exact ⟨rfl, rfl⟩
  · rw [decide_eq_false (fun h => h1 h.1)]
    have h3 : decide (a ≤ x) = false := decide_eq_false h1
    go_enter Try.func29, Try.ntmps29
    go_wp2
    go_ret
    exact ⟨rfl, rfl⟩

theorem rin_yes (x a b : Int) (h : a ≤ x ∧ x ≤ b) (w : World) : Calls Try.prog 29 #[.int .i64 x, .int .i64 a, .int .i64 b] w fun e w' => e = .returned (.bool true) ∧ w' = w := by
  have := rin_anyC x a b w
  rwa [decide_eq_true h] at this
theorem rin_no (x a b : Int) (h : ¬ (a ≤ x ∧ x ≤ b)) (w : World) : Calls Try.prog 29 #[.int .i64 x, .int .i64 a, .int .i64 b] w fun e w' => e = .returned (.bool false) ∧ w' = w := by
  have := rin_anyC x a b w
  rwa [decide_eq_false h] at this

set_option maxRecDepth 100000 in
set_option maxHeartbeats 4000000 in
theorem rgcheck_any (a : Option Addr) (c : Nat) (G : List Cl) (w : World) (hN : G.length ≤ 9223372036854775807) (hB : BigC G) (hS : ClsAt w a G) :
    Calls Try.prog 38 #[.agg #[.slice a G.length c]] w fun e w' => e = .returned (.int .i64 (gcheckE G)) ∧ Below w.heap.size w w' := by
  unfold gcheckE
  by_cases hbig : 24 < G.length
  · rw [if_pos hbig]
    generalize G.length = n at *
    clear hS hB
    have hbig2 : (24 : Int) < (n : Int) := by omega
    go_enter Try.func38, Try.ntmps38
    go_wp2
    go_ret
    exact ⟨rfl, one_belowS _ _⟩
  · rw [if_neg hbig]
    have HS : Hid (ClsAt w a G) := hS
    have HBG : Hid (BigC G) := hB
    have DR : Hid (∀ k, k < G.length → G.drop k = cl G k :: G.drop (k + 1)) := fun k hk => drop_cl hk
    have DN : Hid (G.drop G.length = []) := List.drop_length
    have E0 : Hid (cellsE G.length G = cellsE G.length (G.drop 0)) := rfl
    clear hS hB
    obtain ⟨RES, hR⟩ : ∃ r, cellsE G.length G = r := ⟨_, rfl⟩
    rw [hR] at E0 ⊢
    clear hR
    obtain ⟨n, hn⟩ : ∃ n, G.length = n := ⟨_, rfl⟩
    have HN : Hid (G.length = n) := hn
    rw [hn] at hN hbig DR DN E0 ⊢
    clear hn
    have hbig2 : ¬ (24 : Int) < (n : Int) := by omega
    obtain ⟨Q, hQ⟩ : ∃ Q, (n : Int) - 1 = Q := ⟨_, rfl⟩
    have hQ1 : -1 ≤ Q ∧ Q ≤ 23 := by omega
    have hwr : IntKind.i64.wrap ((n : Int) - 1) = Q := by rw [hQ]; have := hQ1; unfold IntKind.wrap; simp [IntKind.bits, IntKind.signed]; omega
    have HQ : Hid ((n : Int) - 1 = Q) := hQ
    clear hQ hQ1
    go_enter Try.func38, Try.ntmps38
    go_wp2_with fail
    go_loopg [14] n (fun g s14 wr => ∃ k : Nat, k ≤ n ∧ n - k ≤ g ∧ s14 = .int .i64 k ∧ Hid (Below w.heap.size w wr) ∧ wr.cell? ⟨w.heap.size, 0, none⟩ = some (.slice a n c) ∧ Hid (RES = cellsE n (G.drop k)))
    case atStart => exact ⟨0, by omega, by omega, rfl, one_belowS _ _, by go_simp, E0⟩
    case round =>
      obtain ⟨k, hk, hg, rfl, HB, lb, A⟩ := hrel
      have hlb := World.block_lt_of_cell? _ _ lb
      by_cases hlt : k < n
      · have hlt2 : (k : Int) < (n : Int) := by omega
        obtain ⟨b, o, rfl, c0, ka, kc, c1, hks⟩ := (HS.out.below HB.out) k (by rw [HN.out]; exact hlt)
        have KS : Hid (IntsAt wr ka (cl G k).ks) := hks
        have EQ : Hid (RES = if cellE n (cl G k) = 0 then cellsE n (G.drop (k + 1)) else cellE n (cl G k)) := by
          show _ = _
          rw [A.out, DR.out k hlt]
          rfl
        have kbig := HBG.out k (by rw [HN.out]; exact hlt)
        clear hks A
        generalize cl G k = x at *
        obtain ⟨xn, xks⟩ := x
        dsimp only at c0 c1 KS kbig
        have lb1 := keepC lb (one_belowS wr (.cells #[.int .i64 xn, .slice ka xks.length kc] 62))
        have HB1 : Hid (∀ o1, Below w.heap.size w (wr.alloc o1)) := fun o1 => HB.out.trans ((one_belowS _ _).mono HB.out.size)
        by_cases h1 : xn < -1000000 ∨ 1000000 < xn
        · have hE : cellE n ⟨xn, xks⟩ = 2 := by unfold cellE; rw [if_pos h1]
          have EQ2 : Hid (RES = 2) := by show _ = _; rw [EQ.out, hE]; rfl
          have IN : Hid _ := fun W => rin_no xn (-1000000) 1000000 (by omega) W
          clear EQ hE h1
          generalize xks.length = l at *
          go_wp2_with fail
          refine Calls.mono (IN.out _) ?_
          rintro e w1 ⟨rfl, hw⟩
          subst hw
          go_wp2_with fail
          go_ret
          exact ⟨by rw [EQ2.out]; rfl, HB1.out _⟩
        · have IN : Hid _ := fun W => rin_yes xn (-1000000) 1000000 (by omega) W
          by_cases h2 : 8 < xks.length
          · have hE : cellE n ⟨xn, xks⟩ = 1 := by unfold cellE; rw [if_neg h1, if_pos h2]
            have EQ2 : Hid (RES = 1) := by show _ = _; rw [EQ.out, hE]; rfl
            clear EQ hE h1
            generalize xks.length = l at *
            have h3 : (8 : Int) < (l : Int) := by omega
            go_wp2_with fail
            refine Calls.mono (IN.out _) ?_
            rintro e w1 ⟨rfl, hw⟩
            subst hw
            go_wp2_with fail
            go_ret
            exact ⟨by rw [EQ2.out]; rfl, HB1.out _⟩
          · have EQ4 : Hid ((∃ i, i < xks.length ∧ ¬ (0 ≤ xks.getD i 0 ∧ xks.getD i 0 ≤ Q)) → RES = 4) := fun ⟨i, hi, hno⟩ => by
              have hE : cellE n ⟨xn, xks⟩ = 4 := by
                unfold cellE
                rw [if_neg h1, if_neg h2, if_pos]
                rw [List.any_eq_true]
                refine ⟨xks.getD i 0, by rw [getD_elem _ _ hi]; exact List.getElem_mem hi, ?_⟩
                rw [decide_eq_false (by rw [HQ.out]; exact hno)]
                rfl
              rw [EQ.out, hE]; rfl
            have EQ0 : Hid ((∀ i, i < xks.length → (0 ≤ xks.getD i 0 ∧ xks.getD i 0 ≤ Q)) → RES = cellsE n (G.drop (k + 1))) := fun hall => by
              have hE : cellE n ⟨xn, xks⟩ = 0 := by
                unfold cellE
                rw [if_neg h1, if_neg h2, if_neg]
                rw [List.any_eq_true]
                rintro ⟨y, hy, h5⟩
                obtain ⟨i, hi, rfl⟩ := List.getElem_of_mem hy
                have h6 := hall i hi
                rw [getD_elem _ _ hi] at h6
                rw [decide_eq_true (by rw [HQ.out]; exact h6)] at h5
                cases h5
              rw [EQ.out, hE, if_pos rfl]
            clear EQ h1
            obtain ⟨l, hl⟩ : ∃ l, xks.length = l := ⟨_, rfl⟩
            have HL : Hid (xks.length = l) := hl
            rw [hl] at c1 EQ4 EQ0 h2 kbig lb1
            clear hl
            have h3 : ¬ (8 : Int) < (l : Int) := by omega
            have KS1 : Hid (IntsAt (wr.alloc (.cells #[.int .i64 xn, .slice ka l kc] 62)) ka xks) := KS.out.below (one_belowS _ _)
            go_wp2_with fail
            refine Calls.mono (IN.out _) ?_
            rintro e w1 ⟨rfl, hw⟩
            have hw2 := hw.symm
            clear hw IN
            obtain ⟨W1, hW1⟩ : ∃ W1, wr.alloc (.cells #[.int .i64 xn, .slice ka l kc] 62) = W1 := ⟨_, rfl⟩
            have HBW1 : Hid (Below w.heap.size w W1) := by rw [← hW1]; exact HB1.out _
            have c1' : W1.cell? ⟨wr.heap.size, 1, none⟩ = some (.slice ka l kc) := by rw [← hW1]; exact alloc_cell wr _ _ 1 rfl
            rw [hW1] at KS1 lb1 hw2
            subst hw2
            clear HB1
            go_wp2_with fail
            go_loopg [29] l (fun g s29 w5 => ∃ j : Nat, j ≤ l ∧ l - j ≤ g ∧ s29 = .int .i64 j ∧ w5 = W1 ∧ Hid (∀ i, i < j → (0 ≤ xks.getD i 0 ∧ xks.getD i 0 ≤ Q)))
            case atStart => exact ⟨0, by omega, by omega, rfl, rfl, fun i hi => absurd hi (Nat.not_lt_zero _)⟩
            case round =>
              obtain ⟨j, hj, hg2, rfl, hw, ALL⟩ := hrel
              have hw2 := hw.symm
              clear hw
              subst hw2
              by_cases hlt3 : j < l
              · have hlt4 : (j : Int) < (l : Int) := by omega
                obtain ⟨kb, ko, ek, hkc⟩ := KS1.out j (by rw [HL.out]; exact hlt3)
                subst ek
                by_cases hok : 0 ≤ xks.getD j 0 ∧ xks.getD j 0 ≤ Q
                · have IN2 : Hid _ := fun W => rin_yes (xks.getD j 0) 0 Q hok W
                  have NX : Hid (∀ i, i < j + 1 → (0 ≤ xks.getD i 0 ∧ xks.getD i 0 ≤ Q)) := fun i hi => by
                    by_cases e : i = j
                    · subst e; exact hok
                    · exact ALL.out i (by omega)
                  clear ALL hok
                  generalize xks.getD j 0 = y at *
                  go_wp2_with fail
                  refine Calls.mono (IN2.out _) ?_
                  rintro e w6 ⟨rfl, hw6⟩
                  subst hw6
                  go_wp2_with fail
                  go_roundg (l - (j + 1))
                  case measure => omega
                  case rel => exact ⟨j + 1, by omega, by omega, by go_num, rfl, NX⟩
                · have IN2 : Hid _ := fun W => rin_no (xks.getD j 0) 0 Q hok W
                  have EQ2 : Hid (RES = 4) := EQ4.out ⟨j, hlt3, hok⟩
                  clear ALL hok EQ4 EQ0
                  generalize xks.getD j 0 = y at *
                  go_wp2_with fail
                  refine Calls.mono (IN2.out _) ?_
                  rintro e w6 ⟨rfl, hw6⟩
                  subst hw6
                  go_wp2_with fail
                  go_ret
                  exact ⟨by rw [EQ2.out]; rfl, HBW1.out⟩
              · have hje : l = j := by omega
                subst hje
                have EQ2 : Hid (RES = cellsE n (G.drop (k + 1))) := EQ0.out ALL.out
                clear ALL EQ4 EQ0
                go_wp2_with fail
                go_roundg (n - (k + 1))
                case measure => omega
                case rel => exact ⟨k + 1, by omega, by omega, by go_num, HBW1, lb1, EQ2⟩
      · have : n = k := by omega
        subst this
        have EQ2 : Hid (RES = 0) := by show _ = _; rw [A.out, DN.out]; rfl
        clear A
        go_wp2_with fail
        go_ret
        exact ⟨by rw [EQ2.out]; rfl, HB.out⟩
end Go.Proofs.Ytgjfmepbphfjoaa
