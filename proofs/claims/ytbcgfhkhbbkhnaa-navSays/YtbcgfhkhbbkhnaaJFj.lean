/-
  The reference's CheckFrames, HoldsFrame, framed, IsWithin, LengthOf.
-/
import Derived.Test.YtbcgfhkhbbkhnaaJFd
namespace Go.Proofs.Ytbcgfhkhbbkhnaa
open Go.RowKit
set_option linter.unusedVariables false

theorem rinF_any (x a b : Int) (w : World) :
    Calls Try.prog 16 #[.int .i64 x, .int .i64 a, .int .i64 b] w fun e w' => e = .returned (.bool (decide (a ≤ x ∧ x ≤ b))) ∧ w' = w := by
  by_cases h1 : a ≤ x
  · by_cases h2 : x ≤ b
    · rw [decide_eq_true ⟨h1, h2⟩]
      go_enter Try.func16, Try.ntmps16
      go_wp2
      go_ret
      exact ⟨rfl, rfl⟩
    · rw [decide_eq_false (fun h => h2 h.2)]
      have h3 : decide (x ≤ b) = false := decide_eq_false h2
      go_enter Try.func16, Try.ntmps16
      go_wp2
      go_ret
      exact ⟨rfl, rfl⟩
  · rw [decide_eq_false (fun h => h1 h.1)]
    have h3 : decide (a ≤ x) = false := decide_eq_false h1
    go_enter Try.func16, Try.ntmps16
    go_wp2
    go_ret
    exact ⟨rfl, rfl⟩

/-- What CheckFrames goes by at frame i. -/
theorem fErr_roads {L : List Fr} {i : Nat} {E : Int} (hi : i < L.length) (h : fErr L i = E) :
    (¬ whoOk (fr L i) i → 4 = E) ∧ (whoOk (fr L i) i → ¬ rangeOk (fr L i) → 2 = E) ∧ (whoOk (fr L i) i → rangeOk (fr L i) → 0 < i → ¬ fitOk (fr L i) (fr L (fr L i).p.toNat) → 3 = E) ∧
    (whoOk (fr L i) i → rangeOk (fr L i) → (0 < i → fitOk (fr L i) (fr L (fr L i).p.toNat)) → fErr L (i + 1) = E ∧ frE L i = 0) := by
  rw [fErr_step hi] at h
  refine ⟨fun h1 => ?_, fun h1 h2 => ?_, fun h1 h2 h3 h4 => ?_, fun h1 h2 h3 => ?_⟩
  · have e : frE L i = 4 := by unfold frE; rw [if_pos h1]
    rw [e, if_neg (by decide)] at h
    exact h
  · have e : frE L i = 2 := by unfold frE; rw [if_neg (not_not_intro h1), if_pos h2]
    rw [e, if_neg (by decide)] at h
    exact h
  · have e : frE L i = 3 := by unfold frE; rw [if_neg (not_not_intro h1), if_neg (not_not_intro h2), if_pos ⟨h3, h4⟩]
    rw [e, if_neg (by decide)] at h
    exact h
  · have e : frE L i = 0 := frE_zero.2 ⟨h1, h2, h3⟩
    rw [e, if_pos rfl] at h
    exact ⟨h, e⟩

set_option maxRecDepth 100000 in
set_option maxHeartbeats 4000000 in
theorem rfcheck_any (a : Option Addr) (c : Nat) (L : List Fr) (w : World) (hN : L.length ≤ 9223372036854775807) (hL : FrsAt w a L) :
    Calls Try.prog 22 #[.slice a L.length c] w fun e w' => e = .returned (.int .i64 (fcheckE L)) ∧ Below w.heap.size w w' := by
  by_cases hm : 8 < L.length
  · have e : fcheckE L = 1 := by unfold fcheckE; rw [if_pos hm]
    rw [e]
    have hm2 : decide ((8 : Int) < (L.length : Int)) = true := decide_eq_true (by omega)
    clear hL e
    generalize L.length = n at *
    go_enter Try.func22, Try.ntmps22
    go_wp2_with fail
    go_ret
    exact ⟨rfl, Below.refl _ _⟩
  · have e : fcheckE L = fErr L 0 := by unfold fcheckE; rw [if_neg hm]
    rw [e]
    have HL : Hid (FrsAt w a L) := hL
    have hm2 : decide ((8 : Int) < (L.length : Int)) = false := decide_eq_false (by omega)
    have RO : Hid (∀ i E, i < L.length → fErr L i = E → _) := fun i E h1 h2 => fErr_roads (L := L) (i := i) (E := E) h1 h2
    have MAY : Hid (∀ j, frE L j = 0 → 0 ≤ (fr L j).m ∧ (fr L j).m ≤ 7) := fun j h => (frE_zero.1 h).2.1.2.1
    have EN : Hid (fErr L L.length = 0) := fErr_end (Nat.le_refl _)
    clear hL e
    obtain ⟨E, hE⟩ : ∃ E, fErr L 0 = E := ⟨_, rfl⟩
    have HE : Hid (fErr L 0 = E) := hE
    rw [hE]
    clear hE
    obtain ⟨n, hn⟩ : ∃ n, L.length = n := ⟨_, rfl⟩
    have HN : Hid (L.length = n) := hn
    rw [hn] at hN hm hm2 RO EN ⊢
    clear hn
    go_enter Try.func22, Try.ntmps22
    go_wp2_with fail
    go_loopg [11] n (fun g s11 wr => ∃ i : Nat, i ≤ n ∧ n - i ≤ g ∧ s11 = .int .i64 i ∧ Hid (Below w.heap.size w wr) ∧ Hid (fErr L i = E) ∧ Hid (∀ j, j < i → frE L j = 0))
    case atStart => exact ⟨0, by omega, by omega, rfl, Below.refl _ _, HE, fun j hj => absurd hj (Nat.not_lt_zero _)⟩
    case round =>
      obtain ⟨i, hi, hg, rfl, HBr, HEi, HZ⟩ := hrel
      clear HE
      by_cases hlt : i < n
      · have hlt2 : (i : Int) < (n : Int) := by omega
        obtain ⟨b, o, ea, c0, c1, c2, c3, c4⟩ := (HL.out.below HBr.out) i (by rw [HN.out]; exact hlt)
        subst ea
        obtain ⟨r4, r2, r3, r0⟩ := RO.out i E hlt HEi.out
        have R4 : Hid _ := r4
        have q0 := World.block_lt_of_cell? _ _ c0
        have HBA : Hid (∀ o1, Below w.heap.size w (wr.alloc o1)) := fun o1 => HBr.out.trans ((one_belowS wr o1).mono HBr.out.size)
        have HBA2 : Hid (∀ o1 o2, Below w.heap.size w ((wr.alloc o1).alloc o2)) := fun o1 o2 => HBr.out.trans ((two_belowS wr o1 o2).mono HBr.out.size)
        have NXT : Hid (frE L i = 0 → ∀ j, j < i + 1 → frE L j = 0) := fun h j hj => by
          by_cases e : j = i
          · rw [e]; exact h
          · exact HZ.out j (by omega)
        obtain ⟨x, hx⟩ : ∃ x, fr L i = x := ⟨_, rfl⟩
        rw [hx] at c0 c1 c2 c3 c4 R4 r2 r3 r0
        clear hx r4
        obtain ⟨xp, xo, xm, xt, xg⟩ := x
        dsimp only at c0 c1 c2 c3 c4 r3 r0
        have D1 := rinF_any xo 0 9
        have D2 := rinF_any xm 0 7
        have D3 := rinF_any xt 0 1000
        obtain ⟨b1, hb1⟩ : ∃ b, decide (0 ≤ xo ∧ xo ≤ 9) = b := ⟨_, rfl⟩
        obtain ⟨b2, hb2⟩ : ∃ b, decide (0 ≤ xm ∧ xm ≤ 7) = b := ⟨_, rfl⟩
        obtain ⟨b3, hb3⟩ : ∃ b, decide (0 ≤ xt ∧ xt ≤ 1000) = b := ⟨_, rfl⟩
        rw [hb1] at D1
        rw [hb2] at D2
        rw [hb3] at D3
        have K1 : Hid _ := hb1
        have K2 : Hid _ := hb2
        have K3 : Hid _ := hb3
        clear hb1 hb2 hb3
        replace D1 : Hid _ := D1
        replace D2 : Hid _ := D2
        replace D3 : Hid _ := D3
        by_cases h0 : i = 0
        · subst h0
          simp only [Nat.zero_mul, Nat.add_zero] at c0 c1 c2 c3 c4
          by_cases hp : xp = -1
          · subst hp
            have hw : whoOk ⟨-1, xo, xm, xt, xg⟩ 0 := by unfold whoOk; simp
            have R2 : Hid _ := r2 hw
            have R3 : Hid True := trivial
            have R0 : Hid _ := r0 hw
            clear r2 r3 r0 hw R4
            go_wp2_with fail
            refine Calls.mono (D1.out _) ?_
            rintro e w5 ⟨rfl, hw5⟩
            have hw6 := hw5.symm
            clear hw5
            subst hw6
            cases hb1 : b1 with
            | false =>
              have HEE : Hid (2 = E) := R2.out (fun h => by have := K1.out; rw [hb1] at this; exact of_decide_eq_false this h.1)
              subst hb1
              clear R2 R3 R0
              go_wp2_with fail
              go_ret
              exact ⟨by rw [HEE.out]; rfl, HBA.out _⟩
            | true =>
              have hr1 : 0 ≤ xo ∧ xo ≤ 9 := of_decide_eq_true (K1.out.trans hb1)
              subst hb1
              go_wp2_with fail
              refine Calls.mono (D2.out _) ?_
              rintro e w5 ⟨rfl, hw5⟩
              have hw6 := hw5.symm
              clear hw5
              subst hw6
              cases hb2 : b2 with
              | false =>
                have HEE : Hid (2 = E) := R2.out (fun h => by have := K2.out; rw [hb2] at this; exact of_decide_eq_false this h.2.1)
                subst hb2
                clear R2 R3 R0 hr1
                go_wp2_with fail
                go_ret
                exact ⟨by rw [HEE.out]; rfl, HBA.out _⟩
              | true =>
                have hr2 : 0 ≤ xm ∧ xm ≤ 7 := of_decide_eq_true (K2.out.trans hb2)
                subst hb2
                go_wp2_with fail
                refine Calls.mono (D3.out _) ?_
                rintro e w5 ⟨rfl, hw5⟩
                have hw6 := hw5.symm
                clear hw5
                subst hw6
                cases hb3 : b3 with
                | false =>
                  have HEE : Hid (2 = E) := R2.out (fun h => by have := K3.out; rw [hb3] at this; exact of_decide_eq_false this h.2.2)
                  subst hb3
                  clear R2 R3 R0 hr1 hr2
                  go_wp2_with fail
                  go_ret
                  exact ⟨by rw [HEE.out]; rfl, HBA.out _⟩
                | true =>
                  have hr3 : 0 ≤ xt ∧ xt ≤ 1000 := of_decide_eq_true (K3.out.trans hb3)
                  have HRO : Hid ((0 ≤ xo ∧ xo ≤ 9) ∧ (0 ≤ xm ∧ xm ≤ 7) ∧ (0 ≤ xt ∧ xt ≤ 1000)) := ⟨hr1, hr2, hr3⟩
                  subst hb3
                  clear hr1 hr3 R2
                  obtain ⟨f1, f2⟩ := R0.out HRO.out (fun h => absurd h (by omega))
                  have HF1 : Hid _ := f1
                  have HF2 : Hid _ := NXT.out f2
                  clear f1 f2 R0
                  go_wp2_with fail
                  go_roundg (n - (0 + 1))
                  case measure => omega
                  case rel => exact ⟨0 + 1, by omega, by omega, by go_num, HBA.out _, HF1, HF2⟩
          · have hp2 : decide (xp = -1) = false := decide_eq_false hp
            have HEE : Hid (4 = E) := R4.out (by unfold whoOk; simpa using hp)
            clear r2 r3 r0 R4
            go_wp2_with fail
            go_ret
            exact ⟨by rw [HEE.out]; rfl, HBA.out _⟩
        · have h1 : 0 < i := by omega
          have h2 : ¬ (i : Int) = 0 := by omega
          have h3 : decide ((i : Int) = 0) = false := decide_eq_false h2
          have h4 : (0 : Int) < (i : Int) := by omega
          have DP := rinF_any xp 0 ((i : Int) - 1)
          by_cases hp : 0 ≤ xp ∧ xp ≤ (i : Int) - 1
          · rw [decide_eq_true hp] at DP
            replace DP : Hid _ := DP
            obtain ⟨q, rfl⟩ := Int.eq_ofNat_of_zero_le hp.1
            have hw : whoOk ⟨(q : Int), xo, xm, xt, xg⟩ i := by unfold whoOk; rw [if_neg h0]; exact hp
            have hqi : q < i := by omega
            have hq2 : (q : Int) < (n : Int) := by omega
            obtain ⟨b', o', ea, d0, d1, d2, d3, d4⟩ := (HL.out.below HBr.out) q (by rw [HN.out]; omega)
            cases ea
            have my := MAY.out q (HZ.out q hqi)
            have R2 : Hid _ := r2 hw
            have r3' := fun h => r3 hw h h1
            have r0' := r0 hw
            rw [Int.toNat_natCast] at r3' r0'
            have R3 : Hid _ := r3'
            have R0 : Hid _ := r0'
            clear r2 r3 r0 hw R4 r3' r0' hp
            generalize fr L q = y at *
            obtain ⟨yp, yo, ym, yt, yg⟩ := y
            dsimp only at d0 d1 d2 d3 d4 my
            have MY : Hid _ := my
            clear my
            go_wp2_with fail
            refine Calls.mono (DP.out _) ?_
            rintro e w5 ⟨rfl, hw5⟩
            have hw6 := hw5.symm
            clear hw5
            subst hw6
            go_wp2_with fail
            refine Calls.mono (D1.out _) ?_
            rintro e w5 ⟨rfl, hw5⟩
            have hw6 := hw5.symm
            clear hw5
            subst hw6
            cases hb1 : b1 with
            | false =>
              have HEE : Hid (2 = E) := R2.out (fun h => by have := K1.out; rw [hb1] at this; exact of_decide_eq_false this h.1)
              subst hb1
              clear R2 R3 R0
              go_wp2_with fail
              go_ret
              exact ⟨by rw [HEE.out]; rfl, HBA.out _⟩
            | true =>
              have hr1 : 0 ≤ xo ∧ xo ≤ 9 := of_decide_eq_true (K1.out.trans hb1)
              subst hb1
              go_wp2_with fail
              refine Calls.mono (D2.out _) ?_
              rintro e w5 ⟨rfl, hw5⟩
              have hw6 := hw5.symm
              clear hw5
              subst hw6
              cases hb2 : b2 with
              | false =>
                have HEE : Hid (2 = E) := R2.out (fun h => by have := K2.out; rw [hb2] at this; exact of_decide_eq_false this h.2.1)
                subst hb2
                clear R2 R3 R0 hr1
                go_wp2_with fail
                go_ret
                exact ⟨by rw [HEE.out]; rfl, HBA.out _⟩
              | true =>
                have hr2 : 0 ≤ xm ∧ xm ≤ 7 := of_decide_eq_true (K2.out.trans hb2)
                subst hb2
                go_wp2_with fail
                refine Calls.mono (D3.out _) ?_
                rintro e w5 ⟨rfl, hw5⟩
                have hw6 := hw5.symm
                clear hw5
                subst hw6
                cases hb3 : b3 with
                | false =>
                  have HEE : Hid (2 = E) := R2.out (fun h => by have := K3.out; rw [hb3] at this; exact of_decide_eq_false this h.2.2)
                  subst hb3
                  clear R2 R3 R0 hr1 hr2
                  go_wp2_with fail
                  go_ret
                  exact ⟨by rw [HEE.out]; rfl, HBA.out _⟩
                | true =>
                  have hr3 : 0 ≤ xt ∧ xt ≤ 1000 := of_decide_eq_true (K3.out.trans hb3)
                  have HRO : Hid ((0 ≤ xo ∧ xo ≤ 9) ∧ (0 ≤ xm ∧ xm ≤ 7) ∧ (0 ≤ xt ∧ xt ≤ 1000)) := ⟨hr1, hr2, hr3⟩
                  subst hb3
                  clear hr1 hr3 R2
                  have OS : Hid (bits .or .i64 xm ym = ym ↔ bits .andNot .i64 xm ym = 0) := or_sub hr2.1 hr2.2 MY.out.1 MY.out.2
                  clear hr2
                  by_cases hor : bits .or .i64 xm ym = ym
                  · have hor2 : decide (bits .or .i64 xm ym = ym) = true := decide_eq_true hor
                    by_cases hgg : xg = true ∨ yg = false
                    · obtain ⟨f1, f2⟩ := R0.out HRO.out (fun _ => ⟨OS.out.1 hor, hgg⟩)
                      have HF1 : Hid _ := f1
                      have HF2 : Hid _ := NXT.out f2
                      clear f1 f2 R0 R3 OS
                      cases xg <;> cases yg
                      · go_wp2_with fail
                        go_roundg (n - (i + 1))
                        case measure => omega
                        case rel => exact ⟨i + 1, by omega, by omega, by go_num, HBA2.out _ _, HF1, HF2⟩
                      · simp at hgg
                      · go_wp2_with fail
                        go_roundg (n - (i + 1))
                        case measure => omega
                        case rel => exact ⟨i + 1, by omega, by omega, by go_num, HBA2.out _ _, HF1, HF2⟩
                      · go_wp2_with fail
                        go_roundg (n - (i + 1))
                        case measure => omega
                        case rel => exact ⟨i + 1, by omega, by omega, by go_num, HBA2.out _ _, HF1, HF2⟩
                    · have HEE : Hid (3 = E) := R3.out HRO.out (fun h => hgg h.2)
                      have hx1 : xg = false := Bool.eq_false_iff.2 (fun h => hgg (Or.inl h))
                      have hy1 : yg = true := (Bool.eq_false_or_eq_true yg).resolve_right (fun h => hgg (Or.inr h))
                      subst hx1
                      subst hy1
                      clear R0 R3 OS hgg
                      go_wp2_with fail
                      go_ret
                      exact ⟨by rw [HEE.out]; rfl, HBA2.out _ _⟩
                  · have hor2 : decide (bits .or .i64 xm ym = ym) = false := decide_eq_false hor
                    have HEE : Hid (3 = E) := R3.out HRO.out (fun h => hor (OS.out.2 h.1))
                    clear R0 R3 OS
                    go_wp2_with fail
                    go_ret
                    exact ⟨by rw [HEE.out]; rfl, HBA2.out _ _⟩
          · rw [decide_eq_false hp] at DP
            replace DP : Hid _ := DP
            have HEE : Hid (4 = E) := R4.out (by unfold whoOk; rw [if_neg h0]; exact hp)
            clear r2 r3 r0 R4 hp
            go_wp2_with fail
            refine Calls.mono (DP.out _) ?_
            rintro e w5 ⟨rfl, hw5⟩
            have hw6 := hw5.symm
            clear hw5
            subst hw6
            go_wp2_with fail
            go_ret
            exact ⟨by rw [HEE.out]; rfl, HBA.out _⟩
      · have hie : i = n := by omega
        subst hie
        have HEE : Hid ((0 : Int) = E) := EN.out.symm.trans HEi.out
        clear HEi
        go_wp2_with fail
        go_ret
        exact ⟨by rw [HEE.out]; rfl, HBr.out⟩

set_option maxHeartbeats 400000 in
theorem rfholds_any (a : Option Addr) (c : Nat) (L : List Fr) (k : Int) (w : World) (hN : L.length ≤ 9223372036854775807) (hL : FrsAt w a L) :
    Calls Try.prog 10 #[.slice a L.length c, .int .i64 k] w fun e w' => e = .returned (.int .i64 (fholdsE L k)) ∧ w' = w := by
  have d := rinF_any k 0 ((L.length : Int) - 1) w
  rw [show decide (0 ≤ k ∧ k ≤ (L.length : Int) - 1) = decide (0 ≤ k ∧ k < L.length) from decide_eq_decide.2 (by omega)] at d
  unfold fholdsE
  by_cases h1 : 0 ≤ k ∧ k < L.length
  · rw [decide_eq_true h1] at d
    have D : Hid _ := d
    rw [if_neg (not_not_intro h1)]
    obtain ⟨q, rfl⟩ := Int.eq_ofNat_of_zero_le h1.1
    obtain ⟨b, o, ea, c0, c1, c2, c3, c4⟩ := hL q (by omega)
    subst ea
    rw [Int.toNat_natCast]
    have hq2 : (q : Int) < (L.length : Int) := by omega
    clear hL h1 d
    generalize fr L q = x at *
    obtain ⟨xp, xo, xm, xt, xg⟩ := x
    dsimp only at c0 c1 c2 c3 c4
    dsimp only
    generalize L.length = n at *
    cases xg
    all_goals
      go_enter Try.func10, Try.ntmps10
      go_wp2_with fail
      refine Calls.mono D.out ?_
      rintro e w1 ⟨rfl, hw1⟩
      subst hw1
      go_wp2_with fail
      go_ret
      exact ⟨rfl, rfl⟩
  · rw [decide_eq_false h1] at d
    have D : Hid _ := d
    rw [if_pos h1]
    clear hL h1 d
    generalize L.length = n at *
    go_enter Try.func10, Try.ntmps10
    go_wp2_with fail
    refine Calls.mono D.out ?_
    rintro e w1 ⟨rfl, hw1⟩
    subst hw1
    go_wp2_with fail
    go_ret
    exact ⟨rfl, rfl⟩

/-- The first error of frames, and of numbers of some. -/
def heldsE (L : List Fr) (ks : List Int) : Int := ks.foldl (fun e k => if e = 0 then fholdsE L k else e) (fcheckE L)
theorem helds_one (L : List Fr) (k : Int) : heldsE L [k] = heldE L k := rfl

set_option maxHeartbeats 1000000 in
theorem rframed_any (a ka : Option Addr) (c kc : Nat) (L : List Fr) (ks : List Int) (w : World) (hN : L.length ≤ 9223372036854775807) (hK : ks.length ≤ 1000) (hL : FrsAt w a L) (hI : IntsAt w ka ks) :
    Calls Try.prog 15 #[.slice a L.length c, .slice ka ks.length kc] w fun e w' => e = .returned (.int .i64 (heldsE L ks)) ∧ Below w.heap.size w w' := by
  have D : Hid _ := rfcheck_any a c L w hN hL
  have DH : Hid (∀ k W, FrsAt W a L → _) := fun k W hW => rfholds_any a c L k W hN hW
  have HL : Hid (FrsAt w a L) := hL
  have HI : Hid (IntsAt w ka ks) := hI
  have ST : Hid (∀ i, i < ks.length → heldsE L (ks.take (i + 1)) = if heldsE L (ks.take i) = 0 then fholdsE L (ks.getD i 0) else heldsE L (ks.take i)) := fun i hi => by
    unfold heldsE
    rw [List.take_succ_eq_append_getElem hi, List.foldl_append, getD_elem ks 0 hi]
    rfl
  have EN : Hid (heldsE L (ks.take ks.length) = heldsE L ks) := (by rw [List.take_length] : heldsE L (ks.take ks.length) = heldsE L ks)
  have ZZ : Hid (heldsE L (ks.take 0) = fcheckE L) := (rfl : heldsE L (ks.take 0) = fcheckE L)
  clear hL hI
  generalize fcheckE L = E0 at *
  obtain ⟨E, hE⟩ : ∃ E, heldsE L ks = E := ⟨_, rfl⟩
  rw [hE] at EN ⊢
  clear hE
  obtain ⟨n, hn⟩ : ∃ n, L.length = n := ⟨_, rfl⟩
  rw [hn] at hN D DH ⊢
  clear hn
  obtain ⟨m, hm⟩ : ∃ m, ks.length = m := ⟨_, rfl⟩
  have HM : Hid (ks.length = m) := hm
  rw [hm] at hK ST EN ⊢
  clear hm
  go_enter Try.func15, Try.ntmps15
  go_wp2_with fail
  refine Calls.mono D.out ?_
  rintro e w1 ⟨rfl, hb1⟩
  have HB1 : Hid (Below w.heap.size w w1) := hb1
  clear hb1 D
  go_wp2_with fail
  go_loopg [5, 12] m (fun g s5 s12 wr => ∃ (i : Nat) (e : Int), i ≤ m ∧ m - i ≤ g ∧ s12 = .int .i64 i ∧ s5 = .int .i64 e ∧ Hid (Below w.heap.size w wr) ∧ Hid (heldsE L (ks.take i) = e))
  case atStart => exact ⟨0, E0, by omega, by omega, rfl, rfl, HB1, ZZ⟩
  case round =>
    obtain ⟨i, e, hi, hg, rfl, rfl, HBr, HEi⟩ := hrel
    clear HB1 ZZ
    by_cases hlt : i < m
    · have hlt2 : (i : Int) < (m : Int) := by omega
      obtain ⟨b, o, ea, hc⟩ := (HI.out.below HBr.out) i (by rw [HM.out]; exact hlt)
      subst ea
      have sti := ST.out i hlt
      rw [HEi.out] at sti
      have DK : Hid (∀ W, FrsAt W a L → _) := fun W hW => DH.out (ks.getD i 0) W hW
      generalize ks.getD i 0 = k at *
      by_cases h0 : e = 0
      · rw [if_pos h0] at sti
        have HEE : Hid _ := sti
        subst h0
        clear sti
        generalize fholdsE L k = f at *
        go_wp2_with fail
        refine Calls.mono (DK.out _ (HL.out.below HBr.out)) ?_
        rintro e w2 ⟨rfl, hw2⟩
        have hw3 := hw2.symm
        clear hw2
        subst hw3
        go_wp2_with fail
        go_roundg (m - (i + 1))
        case measure => omega
        case rel => exact ⟨i + 1, f, by omega, by omega, by go_num, rfl, HBr, HEE⟩
      · rw [if_neg h0] at sti
        have HEE : Hid _ := sti
        have h1 : decide (e = 0) = false := decide_eq_false h0
        clear sti
        go_wp2_with fail
        go_roundg (m - (i + 1))
        case measure => omega
        case rel => exact ⟨i + 1, e, by omega, by omega, by go_num, rfl, HBr, HEE⟩
    · have hie : i = m := by omega
      subst hie
      have HEE : Hid (e = E) := HEi.out.symm.trans EN.out
      clear HEi
      go_wp2_with fail
      go_ret
      exact ⟨by rw [HEE.out]; rfl, HBr.out⟩

set_option maxRecDepth 100000 in
set_option maxHeartbeats 1000000 in
theorem rwith_any (a : Option Addr) (c : Nat) (L : List Fr) (top : Int) (w : World) (R : RightF L) (hL : FrsAt w a L) : ∀ (m : Nat) (k : Int), k < m →
    Calls Try.prog 17 #[.slice a L.length c, .int .i64 k, .int .i64 top] w fun e w' => e = .returned (.bool (withF L m k top)) ∧ w' = w
  | m, k, hm => by
    have d := rinF_any k 0 ((L.length : Int) - 1) w
    rw [show decide (0 ≤ k ∧ k ≤ (L.length : Int) - 1) = decide (0 ≤ k ∧ k < L.length) from decide_eq_decide.2 (by omega)] at d
    by_cases h1 : 0 ≤ k ∧ k < L.length
    · obtain ⟨q, rfl⟩ := Int.eq_ofNat_of_zero_le h1.1
      match m, hm with
      | m + 1, hm =>
        have IH : Hid _ := rwith_any a c L top w R hL m (fr L q).p (by have := R.low (i := q) (by omega); omega)
        rw [withF, if_pos h1, Int.toNat_natCast]
        rw [decide_eq_true h1] at d
        have D : Hid _ := d
        have hN := R.few
        obtain ⟨b, o, ea, c0, c1, c2, c3, c4⟩ := hL q (by omega)
        subst ea
        have hq2 : (q : Int) < (L.length : Int) := by omega
        clear hL h1 d R hm
        generalize fr L q = x at *
        obtain ⟨xp, xo, xm, xt, xg⟩ := x
        dsimp only at c0 c1 c2 c3 c4 IH
        dsimp only
        generalize L.length = n at *
        by_cases e : (q : Int) = top
        · rw [if_pos e]
          subst e
          go_enter Try.func17, Try.ntmps17
          go_wp2_with fail
          refine Calls.mono D.out ?_
          rintro e w1 ⟨rfl, hw1⟩
          have hw2 := hw1.symm
          clear hw1
          subst hw2
          go_wp2_with fail
          go_ret
          exact ⟨rfl, rfl⟩
        · rw [if_neg e]
          have e2 : decide ((q : Int) = top) = false := decide_eq_false e
          have e3 : ((q : Int) == top) = false := beq_eq_false_iff_ne.2 e
          generalize withF L m xp top = r at *
          go_enter Try.func17, Try.ntmps17
          go_wp2_with fail
          refine Calls.mono D.out ?_
          rintro e w1 ⟨rfl, hw1⟩
          have hw2 := hw1.symm
          clear hw1
          subst hw2
          go_wp2_with fail
          refine Calls.mono IH.out ?_
          rintro e w2 ⟨rfl, hw2⟩
          have hw3 := hw2.symm
          clear hw2
          subst hw3
          go_wp2_with fail
          go_ret
          exact ⟨rfl, rfl⟩
    · rw [with_none h1]
      rw [decide_eq_false h1] at d
      have D : Hid _ := d
      have hN := R.few
      clear hL h1 d R hm
      generalize L.length = n at *
      go_enter Try.func17, Try.ntmps17
      go_wp2_with fail
      refine Calls.mono D.out ?_
      rintro e w1 ⟨rfl, hw1⟩
      have hw2 := hw1.symm
      clear hw1
      subst hw2
      go_wp2_with fail
      go_ret
      exact ⟨rfl, rfl⟩
theorem rwithin_any (a : Option Addr) (c : Nat) (L : List Fr) (k top : Int) (w : World) (R : RightF L) (hL : FrsAt w a L) :
    Calls Try.prog 17 #[.slice a L.length c, .int .i64 k, .int .i64 top] w fun e w' => e = .returned (.bool (inF L k top)) ∧ w' = w := by
  by_cases h : k < L.length
  · exact rwith_any a c L top w R hL L.length k h
  · have h2 := rwith_any a c L top w R hL (k.toNat + 1) k (by omega)
    rw [with_none (by omega)] at h2
    unfold inF
    rwa [with_none (by omega)]
end Go.Proofs.Ytbcgfhkhbbkhnaa
