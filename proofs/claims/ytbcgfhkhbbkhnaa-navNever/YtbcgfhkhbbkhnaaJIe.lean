/-
  NavNever at whatever arguments.
-/
import Derived.Test.YtbcgfhkhbbkhnaaJIc
namespace Go.Proofs.Ytbcgfhkhbbkhnaa
open Go.RowKit
set_option linter.unusedVariables false

/-- What stays so, wherever frame q goes. -/
structure NavI (L M : List Fr) (q n : Nat) : Prop where
  len : M.length = n
  right : RightF M
  held : (fr M q).g = false
  turn : (fr L q).t ≤ (fr M q).t
  may : (fr M q).m = (fr L q).m
theorem NavI.go {L M : List Fr} {q n : Nat} {o : Int} (h : NavI L M q n) (hq : q < n) (hE : goE M q o = 0) : NavI L (goF M q o) q n ∧ (fr (goF M q o) q).o = o ∧ stillF (goF M q o) q (fr L q).t = false := by
  have hq2 : q < M.length := by rw [h.len]; exact hq
  have hs := go_self (o := o) hq2
  refine ⟨⟨(go_len _ _ _).trans h.len, go_right hE, ?_, ?_, ?_⟩, ?_, ?_⟩
  · rw [hs]; exact h.held
  · rw [hs]; have := h.turn; dsimp only; omega
  · rw [hs]; exact h.may
  · rw [hs]
  · unfold stillF
    rw [Int.toNat_natCast, hs]
    have := h.turn
    dsimp only
    rw [show decide ((fr M q).t + 1 = (fr L q).t) = false from decide_eq_false (by omega), Bool.and_false]
theorem go_same {L : List Fr} {k : Nat} {o : Int} {i : Nat} (h : i < L.length) (hne : i ≠ k) : (fr (goF L k o) i).o = (fr L i).o ∧ (fr (goF L k o) i).t = (fr L i).t ∧ (fr (goF L k o) i).g = ((fr L i).g || inF L i k) := by
  rw [go_other h hne]
  exact ⟨rfl, rfl, rfl⟩

set_option maxRecDepth 100000 in
set_option maxHeartbeats 4000000 in
theorem navNever_ok (hG : GoAns) (hS : StillAns) (a : Option Addr) (c : Nat) (L : List Fr) (q : Nat) (ia : Option Addr) (ic : Nat) (I : List Int) (w : World) (R : RightF L) (hq : q < L.length) (hg : (fr L q).g = false) (hL : FrsAt w a L) (hIc : I.length ≤ ic) (hIm : ic ≤ 9223372036854775807) (hI : IntsAt w ia I) :
    Calls Try.prog 4 #[.slice a L.length c, .int .i64 (q : Int), .slice ia I.length ic] w fun e w' => e = .returned (.bool true) ∧ Below w.heap.size w w' := by
  have hN := R.few
  have h0 : fcheckE L = 0 := fcheck_zero.2 R
  have h1 : fholdsE L q = 0 := by unfold fholdsE; rw [if_neg (by omega), Int.toNat_natCast, if_neg (by rw [hg]; decide)]
  have HL : Hid (FrsAt w a L) := hL
  have HZ : Hid (IntsAt w ia I) := hI
  have DO : Hid GoneOk := gone_ok hG hS
  have DC : Hid (∀ W, FrsAt W a L → _) := fun W hW => fcheck_any a c L W (by omega) hW
  have DH : Hid (∀ W, FrsAt W a L → _) := fun W hW => fholds_any a c L q W (by omega) hW
  rw [h0] at DC
  rw [h1] at DH
  have DG : Hid GoAns := hG
  have DS : Hid StillAns := hS
  have NI0 : Hid (NavI L L q L.length) := ⟨rfl, R, hg, Int.le_refl _, rfl⟩
  clear hL hI hG hS h0 h1 R hg
  obtain ⟨n, hn⟩ : ∃ n, L.length = n := ⟨_, rfl⟩
  have HN : Hid (L.length = n) := hn
  rw [hn] at hN hq DC DH NI0 ⊢
  clear hn
  have hq2 : (q : Int) < (n : Int) := by omega
  obtain ⟨len, hlen⟩ : ∃ z, I.length = z := ⟨_, rfl⟩
  have HLEN : Hid (I.length = len) := hlen
  rw [hlen] at hIc ⊢
  clear hlen
  go_enter Try.func4, Try.ntmps4
  go_wp2_with fail
  refine Calls.mono (DO.out _) ?_
  rintro e w1 ⟨rfl, hb⟩
  have HB1 : Hid (Below w.heap.size w w1) := hb
  clear hb
  go_wp2_with fail
  refine Calls.mono (DC.out _ (HL.out.below HB1.out)) ?_
  rintro e w2 ⟨rfl, hb⟩
  have HB2 : Hid (Below w.heap.size w w2) := HB1.out.trans (hb.mono HB1.out.size)
  clear hb
  go_wp2_with fail
  refine Calls.mono (DH.out _ (HL.out.below HB2.out)) ?_
  rintro e w3 ⟨rfl, hw3⟩
  have hw4 := hw3.symm
  clear hw3
  subst hw4
  have HF0 : Hid (FrsAt w2 a L) := HL.out.below HB2.out
  go_wp2_with fail
  rotate_left
  · go_loopg [7, 34] len (fun g s7 s34 wr => ∃ (i vc : Nat) (va : Option Addr) (M : List Fr), i ≤ len ∧ len - i ≤ g ∧ s34 = .int .i64 i ∧ s7 = .slice va n vc ∧ Hid (Below w.heap.size w wr) ∧ Hid (FrsAt wr va M) ∧ Hid (NavI L M q n))
    case atStart => exact ⟨0, c, a, L, by omega, by omega, rfl, rfl, HB2, HF0, NI0⟩
    case round =>
      obtain ⟨i, vc, va, M, hi, hgi, rfl, rfl, HBr, HF, NI⟩ := hrel
      clear HF0 NI0 HB1 HB2 DC DH DO
      by_cases hlt : i < len
      · have hlt2 : (i : Int) < (len : Int) := by omega
        obtain ⟨ib, io, ei, ic0⟩ := (HZ.out.below HBr.out) i (by rw [HLEN.out]; omega)
        subst ei
        generalize I.getD i 0 = o at *
        have dg := DG.out va vc M q o wr (by rw [NI.out.len]; omega) HF.out
        rw [NI.out.len] at dg
        have DGM : Hid _ := dg
        clear dg
        by_cases hE : goE M q o = 0
        · obtain ⟨ni, hno, hst⟩ := NI.out.go hq hE
          have er : resG M q o = goF M q o := if_pos hE
          rw [er, hE, go_len, NI.out.len] at DGM
          have NI2 : Hid (NavI L (goF M q o) q n) := ni
          have SM : Hid (∀ i, i < n → i ≠ q → (fr (goF M q o) i).o = (fr M i).o ∧ (fr (goF M q o) i).t = (fr M i).t ∧ (fr (goF M q o) i).g = ((fr M i).g || inF M i q)) := fun i hi hne => go_same (by rw [NI.out.len]; exact hi) hne
          have DW : Hid (∀ (j : Nat) W, FrsAt W va M → _) := fun j W hW => fwithin_any va vc M (j : Int) (q : Int) W (by rw [NI.out.len]; omega) hW
          have DC2 : Hid (∀ vb vd W, FrsAt W vb (goF M q o) → _) := fun vb vd W hW => fcheck_any vb vd (goF M q o) W (by rw [go_len, NI.out.len]; omega) hW
          rw [fcheck_zero.2 ni.right, go_len, NI.out.len] at DC2
          have DS2 : Hid (∀ vb vd W, FrsAt W vb (goF M q o) → _) := fun vb vd W hW => DS.out vb vd (goF M q o) q (fr L q).t W (by rw [go_len, NI.out.len]; omega) hW
          rw [hst, go_len, NI.out.len] at DS2
          rw [NI.out.len] at DW
          have HNO : Hid ((fr (goF M q o) q).o = o) := hno
          have NML : Hid (M.length = n) := NI.out.len
          clear er hE ni hst hno
          generalize goF M q o = X at *
          go_wp2_with fail
          refine Calls.mono DGM.out ?_
          rintro e w5 ⟨vb, vd, rfl, hb, hF⟩
          have HB5 : Hid (Below w.heap.size w w5) := HBr.out.trans (hb.mono HBr.out.size)
          have HX5 : Hid (FrsAt w5 vb X) := hF
          have HM5 : Hid (FrsAt w5 va M) := HF.out.below hb
          obtain ⟨xb, xo, ex, x0, x1, x2, x3, x4⟩ := hF q (by rw [NI2.out.len]; exact hq)
          obtain ⟨lb, lo, el, l0, l1, l2, l3, l4⟩ := (HL.out.below HB5.out) q (by rw [HN.out]; exact hq)
          subst ex
          subst el
          rw [HNO.out] at x1
          rw [NI2.out.may] at x2
          clear hb hF x0 x3 x4 l0 l1 l4 DGM HNO
          generalize (fr L q).t = lt at *
          generalize (fr L q).m = lm at *
          go_wp2_with fail
          go_region_held3 (fun w'' => w''.cell? ⟨xb, xo + q * 5 + 1, none⟩ = some (.int .i64 o) ∧ w''.cell? ⟨xb, xo + q * 5 + 2, none⟩ = some (.int .i64 lm) ∧ w''.cell? ⟨lb, lo + q * 5 + 2, none⟩ = some (.int .i64 lm) ∧ w''.cell? ⟨lb, lo + q * 5 + 3, none⟩ = some (.int .i64 lt)) (go_keep) (first | (go_at_call 11; refine Calls.mono (DC2.out _ vd _ (HX5.out.below (Below.refl w5.heap.size w5).drew)) ?_; rintro e w6 ⟨rfl, hb6⟩; have HB6 : Hid (Below w5.heap.size w5 w6) := (Below.refl w5.heap.size w5).drew.trans hb6; have x1' := keepC x1 HB6.out; have x2' := keepC x2 HB6.out; have l2' := keepC l2 HB6.out; have l3' := keepC l3 HB6.out; clear hb6) | (go_at_call 9; refine Calls.mono (DS2.out _ vd _ ?f1) ?_; (case f1 => first | exact HX5.out.below HB6.out | exact HX5.out.below HB6.out.drew); rintro e w7 ⟨rfl, hb7⟩; have HB7 : Hid (Below w5.heap.size w5 w7) := HB6.out.trans (hb7.mono HB6.out.size); have x1'' := keepC x1 HB7.out; have x2'' := keepC x2 HB7.out; have l2'' := keepC l2 HB7.out; have l3'' := keepC l3 HB7.out; clear hb7))
          all_goals
            clear x1 x2 l2 l3 x1' x2' l2' l3' x1'' x2'' l2'' l3'' HB6
            have HX7 : Hid (FrsAt w7 (some ⟨xb, xo, none⟩) X) := HX5.out.below HB7.out
            have HM7 : Hid (FrsAt w7 va M) := HM5.out.below HB7.out
            have HW7 : Hid (Below w.heap.size w w7) := HB5.out.trans (HB7.out.mono HB5.out.size)
            clear HX5 HM5 HB5 HB7 HF HBr
            obtain ⟨U, hU⟩ : ∃ U, U = w7 := ⟨_, rfl⟩
            subst hU
            go_wp2_with fail
            go_loopg [84] n (fun g s84 wr => ∃ j : Nat, j ≤ n ∧ n - j ≤ g ∧ s84 = .int .i64 j ∧ Hid (Below U.heap.size U wr))
            case atStart => exact ⟨0, by omega, by omega, rfl, (by first | exact Below.refl _ _ | exact (Below.refl _ _).drew)⟩
            case round =>
              obtain ⟨j, hj, hgj, rfl, HBj⟩ := hrel
              by_cases hltj : j < n
              · have hltj2 : (j : Int) < (n : Int) := by omega
                obtain ⟨xb', xo', ex', e0, e1, e2, e3, e4⟩ := (HX7.out.below HBj.out) j (by rw [NI2.out.len]; exact hltj)
                cases ex'
                obtain ⟨mb, mo, em, f0, f1, f2, f3, f4⟩ := (HM7.out.below HBj.out) j (by rw [NML.out]; exact hltj)
                have DJ : Hid (∀ W, FrsAt W va M → _) := fun W hW => DW.out j W hW
                have HA4 : Hid (∀ z, FrsAt (wr.drewN z) va M) := fun z => HM7.out.below (belowN HBj.out z)
                subst em
                by_cases hjq : j = q
                · subst hjq
                  go_wp2_with fail
                  go_big_quiet (fail)
                  go_wp2_with fail
                  go_roundg (n - (j + 1))
                  case measure => omega
                  case rel => exact ⟨j + 1, by omega, by omega, by go_num, belowN HBj.out _⟩
                · obtain ⟨s1, s2, s3⟩ := SM.out j hltj hjq
                  rw [s1] at e1
                  rw [s2] at e3
                  rw [s3] at e4
                  have y1 : ((j : Int) == (q : Int)) = false := by simp; omega
                  have y2 : decide ((j : Int) = (q : Int)) = false := decide_eq_false (by omega)
                  have y3 : decide (j = q) = false := decide_eq_false hjq
                  have y4 : ((j : Int) != (q : Int)) = true := by simp; omega
                  clear s1 s2 s3 e0 e2 f0 f2
                  generalize fr M j = y at *
                  obtain ⟨yp, yo, ym, yt, yg⟩ := y
                  dsimp only at f1 f3 f4 e1 e3 e4
                  cases hin : inF M (j : Int) (q : Int) with
                  | true =>
                    rw [hin] at DJ
                    rw [hin, Bool.or_true] at e4
                    clear hin
                    cases yg
                    all_goals
                      go_wp2_with fail
                      go_big_quiet (first | (go_at_call 13; exact Calls.quiet_of_same (DJ.out _ (HA4.out _))))
                      go_wp2_with fail
                      go_roundg (n - (j + 1))
                      case measure => omega
                      case rel => exact ⟨j + 1, by omega, by omega, by go_num, belowN HBj.out _⟩
                  | false =>
                    rw [hin] at DJ
                    rw [hin, Bool.or_false] at e4
                    clear hin
                    cases yg
                    all_goals
                      go_wp2_with fail
                      go_big_quiet (first | (go_at_call 13; exact Calls.quiet_of_same (DJ.out _ (HA4.out _))))
                      go_wp2_with fail
                      go_roundg (n - (j + 1))
                      case measure => omega
                      case rel => exact ⟨j + 1, by omega, by omega, by go_num, belowN HBj.out _⟩
              · have hje : n = j := by omega
                subst hje
                have HXE : Hid (FrsAt wr (some ⟨xb, xo, none⟩) X) := HX7.out.below HBj.out
                have HWE : Hid (Below w.heap.size w wr) := HW7.out.trans (HBj.out.mono HW7.out.size)
                go_wp2_with fail
                go_roundg (len - (i + 1))
                case measure => omega
                case rel => exact ⟨i + 1, vd, _, X, by omega, by omega, by go_num, rfl, HWE, HXE, NI2⟩
        · have hEa : decide (goE M q o = 0) = false := decide_eq_false hE
          have hEb : (goE M q o == 0) = false := by simp [hE]
          generalize goE M q o = E at *
          generalize (resG M q o).length = rl at *
          go_wp2_with fail
          refine Calls.mono DGM.out ?_
          rintro e w5 ⟨vb, vd, rfl, hb, hF⟩
          have HB5 : Hid (Below w.heap.size w w5) := HBr.out.trans (hb.mono HBr.out.size)
          have HM5 : Hid (FrsAt w5 va M) := HF.out.below hb
          clear hb hF
          go_wp2_with fail
          go_roundg (len - (i + 1))
          case measure => omega
          case rel => exact ⟨i + 1, vc, va, M, by omega, by omega, by go_num, rfl, HB5, HM5, NI⟩
      · have hie : len = i := by omega
        subst hie
        go_wp2_with fail
        go_ret
        exact ⟨rfl, HBr.out⟩
  · rw [show max (20 : Int) 0 = 20 from by decide]
    go_loopg [7, 34] 20 (fun g s7 s34 wr => ∃ (i vc : Nat) (va : Option Addr) (M : List Fr), i ≤ 20 ∧ 20 - i ≤ g ∧ s34 = .int .i64 i ∧ s7 = .slice va n vc ∧ Hid (Below w.heap.size w wr) ∧ Hid (FrsAt wr va M) ∧ Hid (NavI L M q n))
    case atStart => exact ⟨0, c, a, L, by omega, by omega, rfl, rfl, HB2, HF0, NI0⟩
    case round =>
      obtain ⟨i, vc, va, M, hi, hgi, rfl, rfl, HBr, HF, NI⟩ := hrel
      clear HF0 NI0 HB1 HB2 DC DH DO
      by_cases hlt : i < 20
      · have hlt2 : (i : Int) < (20 : Int) := by omega
        obtain ⟨ib, io, ei, ic0⟩ := (HZ.out.below HBr.out) i (by rw [HLEN.out]; omega)
        subst ei
        generalize I.getD i 0 = o at *
        have dg := DG.out va vc M q o wr (by rw [NI.out.len]; omega) HF.out
        rw [NI.out.len] at dg
        have DGM : Hid _ := dg
        clear dg
        by_cases hE : goE M q o = 0
        · obtain ⟨ni, hno, hst⟩ := NI.out.go hq hE
          have er : resG M q o = goF M q o := if_pos hE
          rw [er, hE, go_len, NI.out.len] at DGM
          have NI2 : Hid (NavI L (goF M q o) q n) := ni
          have SM : Hid (∀ i, i < n → i ≠ q → (fr (goF M q o) i).o = (fr M i).o ∧ (fr (goF M q o) i).t = (fr M i).t ∧ (fr (goF M q o) i).g = ((fr M i).g || inF M i q)) := fun i hi hne => go_same (by rw [NI.out.len]; exact hi) hne
          have DW : Hid (∀ (j : Nat) W, FrsAt W va M → _) := fun j W hW => fwithin_any va vc M (j : Int) (q : Int) W (by rw [NI.out.len]; omega) hW
          have DC2 : Hid (∀ vb vd W, FrsAt W vb (goF M q o) → _) := fun vb vd W hW => fcheck_any vb vd (goF M q o) W (by rw [go_len, NI.out.len]; omega) hW
          rw [fcheck_zero.2 ni.right, go_len, NI.out.len] at DC2
          have DS2 : Hid (∀ vb vd W, FrsAt W vb (goF M q o) → _) := fun vb vd W hW => DS.out vb vd (goF M q o) q (fr L q).t W (by rw [go_len, NI.out.len]; omega) hW
          rw [hst, go_len, NI.out.len] at DS2
          rw [NI.out.len] at DW
          have HNO : Hid ((fr (goF M q o) q).o = o) := hno
          have NML : Hid (M.length = n) := NI.out.len
          clear er hE ni hst hno
          generalize goF M q o = X at *
          go_wp2_with fail
          refine Calls.mono DGM.out ?_
          rintro e w5 ⟨vb, vd, rfl, hb, hF⟩
          have HB5 : Hid (Below w.heap.size w w5) := HBr.out.trans (hb.mono HBr.out.size)
          have HX5 : Hid (FrsAt w5 vb X) := hF
          have HM5 : Hid (FrsAt w5 va M) := HF.out.below hb
          obtain ⟨xb, xo, ex, x0, x1, x2, x3, x4⟩ := hF q (by rw [NI2.out.len]; exact hq)
          obtain ⟨lb, lo, el, l0, l1, l2, l3, l4⟩ := (HL.out.below HB5.out) q (by rw [HN.out]; exact hq)
          subst ex
          subst el
          rw [HNO.out] at x1
          rw [NI2.out.may] at x2
          clear hb hF x0 x3 x4 l0 l1 l4 DGM HNO
          generalize (fr L q).t = lt at *
          generalize (fr L q).m = lm at *
          go_wp2_with fail
          go_region_held3 (fun w'' => w''.cell? ⟨xb, xo + q * 5 + 1, none⟩ = some (.int .i64 o) ∧ w''.cell? ⟨xb, xo + q * 5 + 2, none⟩ = some (.int .i64 lm) ∧ w''.cell? ⟨lb, lo + q * 5 + 2, none⟩ = some (.int .i64 lm) ∧ w''.cell? ⟨lb, lo + q * 5 + 3, none⟩ = some (.int .i64 lt)) (go_keep) (first | (go_at_call 11; refine Calls.mono (DC2.out _ vd _ (HX5.out.below (Below.refl w5.heap.size w5).drew)) ?_; rintro e w6 ⟨rfl, hb6⟩; have HB6 : Hid (Below w5.heap.size w5 w6) := (Below.refl w5.heap.size w5).drew.trans hb6; have x1' := keepC x1 HB6.out; have x2' := keepC x2 HB6.out; have l2' := keepC l2 HB6.out; have l3' := keepC l3 HB6.out; clear hb6) | (go_at_call 9; refine Calls.mono (DS2.out _ vd _ ?f1) ?_; (case f1 => first | exact HX5.out.below HB6.out | exact HX5.out.below HB6.out.drew); rintro e w7 ⟨rfl, hb7⟩; have HB7 : Hid (Below w5.heap.size w5 w7) := HB6.out.trans (hb7.mono HB6.out.size); have x1'' := keepC x1 HB7.out; have x2'' := keepC x2 HB7.out; have l2'' := keepC l2 HB7.out; have l3'' := keepC l3 HB7.out; clear hb7))
          all_goals
            clear x1 x2 l2 l3 x1' x2' l2' l3' x1'' x2'' l2'' l3'' HB6
            have HX7 : Hid (FrsAt w7 (some ⟨xb, xo, none⟩) X) := HX5.out.below HB7.out
            have HM7 : Hid (FrsAt w7 va M) := HM5.out.below HB7.out
            have HW7 : Hid (Below w.heap.size w w7) := HB5.out.trans (HB7.out.mono HB5.out.size)
            clear HX5 HM5 HB5 HB7 HF HBr
            obtain ⟨U, hU⟩ : ∃ U, U = w7 := ⟨_, rfl⟩
            subst hU
            go_wp2_with fail
            go_loopg [84] n (fun g s84 wr => ∃ j : Nat, j ≤ n ∧ n - j ≤ g ∧ s84 = .int .i64 j ∧ Hid (Below U.heap.size U wr))
            case atStart => exact ⟨0, by omega, by omega, rfl, (by first | exact Below.refl _ _ | exact (Below.refl _ _).drew)⟩
            case round =>
              obtain ⟨j, hj, hgj, rfl, HBj⟩ := hrel
              by_cases hltj : j < n
              · have hltj2 : (j : Int) < (n : Int) := by omega
                obtain ⟨xb', xo', ex', e0, e1, e2, e3, e4⟩ := (HX7.out.below HBj.out) j (by rw [NI2.out.len]; exact hltj)
                cases ex'
                obtain ⟨mb, mo, em, f0, f1, f2, f3, f4⟩ := (HM7.out.below HBj.out) j (by rw [NML.out]; exact hltj)
                have DJ : Hid (∀ W, FrsAt W va M → _) := fun W hW => DW.out j W hW
                have HA4 : Hid (∀ z, FrsAt (wr.drewN z) va M) := fun z => HM7.out.below (belowN HBj.out z)
                subst em
                by_cases hjq : j = q
                · subst hjq
                  go_wp2_with fail
                  go_big_quiet (fail)
                  go_wp2_with fail
                  go_roundg (n - (j + 1))
                  case measure => omega
                  case rel => exact ⟨j + 1, by omega, by omega, by go_num, belowN HBj.out _⟩
                · obtain ⟨s1, s2, s3⟩ := SM.out j hltj hjq
                  rw [s1] at e1
                  rw [s2] at e3
                  rw [s3] at e4
                  have y1 : ((j : Int) == (q : Int)) = false := by simp; omega
                  have y2 : decide ((j : Int) = (q : Int)) = false := decide_eq_false (by omega)
                  have y3 : decide (j = q) = false := decide_eq_false hjq
                  have y4 : ((j : Int) != (q : Int)) = true := by simp; omega
                  clear s1 s2 s3 e0 e2 f0 f2
                  generalize fr M j = y at *
                  obtain ⟨yp, yo, ym, yt, yg⟩ := y
                  dsimp only at f1 f3 f4 e1 e3 e4
                  cases hin : inF M (j : Int) (q : Int) with
                  | true =>
                    rw [hin] at DJ
                    rw [hin, Bool.or_true] at e4
                    clear hin
                    cases yg
                    all_goals
                      go_wp2_with fail
                      go_big_quiet (first | (go_at_call 13; exact Calls.quiet_of_same (DJ.out _ (HA4.out _))))
                      go_wp2_with fail
                      go_roundg (n - (j + 1))
                      case measure => omega
                      case rel => exact ⟨j + 1, by omega, by omega, by go_num, belowN HBj.out _⟩
                  | false =>
                    rw [hin] at DJ
                    rw [hin, Bool.or_false] at e4
                    clear hin
                    cases yg
                    all_goals
                      go_wp2_with fail
                      go_big_quiet (first | (go_at_call 13; exact Calls.quiet_of_same (DJ.out _ (HA4.out _))))
                      go_wp2_with fail
                      go_roundg (n - (j + 1))
                      case measure => omega
                      case rel => exact ⟨j + 1, by omega, by omega, by go_num, belowN HBj.out _⟩
              · have hje : n = j := by omega
                subst hje
                have HXE : Hid (FrsAt wr (some ⟨xb, xo, none⟩) X) := HX7.out.below HBj.out
                have HWE : Hid (Below w.heap.size w wr) := HW7.out.trans (HBj.out.mono HW7.out.size)
                go_wp2_with fail
                go_roundg (20 - (i + 1))
                case measure => omega
                case rel => exact ⟨i + 1, vd, _, X, by omega, by omega, by go_num, rfl, HWE, HXE, NI2⟩
        · have hEa : decide (goE M q o = 0) = false := decide_eq_false hE
          have hEb : (goE M q o == 0) = false := by simp [hE]
          generalize goE M q o = E at *
          generalize (resG M q o).length = rl at *
          go_wp2_with fail
          refine Calls.mono DGM.out ?_
          rintro e w5 ⟨vb, vd, rfl, hb, hF⟩
          have HB5 : Hid (Below w.heap.size w w5) := HBr.out.trans (hb.mono HBr.out.size)
          have HM5 : Hid (FrsAt w5 va M) := HF.out.below hb
          clear hb hF
          go_wp2_with fail
          go_roundg (20 - (i + 1))
          case measure => omega
          case rel => exact ⟨i + 1, vc, va, M, by omega, by omega, by go_num, rfl, HB5, HM5, NI⟩
      · have hie : 20 = i := by omega
        subst hie
        go_wp2_with fail
        go_ret
        exact ⟨rfl, HBr.out⟩

set_option maxRecDepth 100000 in
set_option maxHeartbeats 2000000 in
theorem navNever_any (hG : GoAns) (hS : StillAns) (a : Option Addr) (c : Nat) (L : List Fr) (k : Int) (ia : Option Addr) (ic : Nat) (I : List Int) (w : World) (hN : L.length ≤ 9223372036854775807) (hL : FrsAt w a L) (hIc : I.length ≤ ic) (hIm : ic ≤ 9223372036854775807) (hI : IntsAt w ia I) :
    Calls Try.prog 4 #[.slice a L.length c, .int .i64 k, .slice ia I.length ic] w fun e w' => e = .returned (.bool true) ∧ Below w.heap.size w w' := by
  have DO : Hid GoneOk := gone_ok hG hS
  by_cases h1 : fcheckE L = 0
  · by_cases h2 : fholdsE L k = 0
    · obtain ⟨q, rfl, hq, hg⟩ := holds_zero h2
      exact navNever_ok hG hS a c L q ia ic I w (fcheck_zero.1 h1) hq hg hL hIc hIm hI
    · have HL : Hid (FrsAt w a L) := hL
      have DC : Hid (∀ W, FrsAt W a L → _) := fun W hW => fcheck_any a c L W hN hW
      have DH : Hid (∀ W, FrsAt W a L → _) := fun W hW => fholds_any a c L k W hN hW
      rw [h1] at DC
      clear hL hI hG hS h1
      generalize fholdsE L k = E at *
      have ha : decide (E = 0) = false := decide_eq_false h2
      have hb : (E == 0) = false := by simp [h2]
      generalize L.length = n at *
      generalize I.length = m at *
      go_enter Try.func4, Try.ntmps4
      go_wp2_with fail
      refine Calls.mono (DO.out _) ?_
      rintro e w1 ⟨rfl, hb⟩
      have HB1 : Hid (Below w.heap.size w w1) := hb
      clear hb
      go_wp2_with fail
      refine Calls.mono (DC.out _ (HL.out.below HB1.out)) ?_
      rintro e w2 ⟨rfl, hb⟩
      have HB2 : Hid (Below w.heap.size w w2) := HB1.out.trans (hb.mono HB1.out.size)
      clear hb
      go_wp2_with fail
      refine Calls.mono (DH.out _ (HL.out.below HB2.out)) ?_
      rintro e w3 ⟨rfl, hw3⟩
      have hw4 := hw3.symm
      clear hw3
      subst hw4
      go_wp2_with fail
      refine Calls.mono (DO.out _) ?_
      rintro e w4 ⟨rfl, hb⟩
      have HB4 : Hid (Below w.heap.size w w4) := HB2.out.trans (hb.mono HB2.out.size)
      clear hb
      go_wp2_with fail
      go_ret
      exact ⟨rfl, HB4.out⟩
  · have HL : Hid (FrsAt w a L) := hL
    have DC : Hid (∀ W, FrsAt W a L → _) := fun W hW => fcheck_any a c L W hN hW
    clear hL hI hG hS
    generalize fcheckE L = E at *
    have ha : decide (E = 0) = false := decide_eq_false h1
    have hb : (E == 0) = false := by simp [h1]
    generalize L.length = n at *
    generalize I.length = m at *
    go_enter Try.func4, Try.ntmps4
    go_wp2_with fail
    refine Calls.mono (DO.out _) ?_
    rintro e w1 ⟨rfl, hb⟩
    have HB1 : Hid (Below w.heap.size w w1) := hb
    clear hb
    go_wp2_with fail
    refine Calls.mono (DC.out _ (HL.out.below HB1.out)) ?_
    rintro e w2 ⟨rfl, hb⟩
    have HB2 : Hid (Below w.heap.size w w2) := HB1.out.trans (hb.mono HB1.out.size)
    clear hb
    go_wp2_with fail
    refine Calls.mono (DO.out _) ?_
    rintro e w4 ⟨rfl, hb⟩
    have HB4 : Hid (Below w.heap.size w w4) := HB2.out.trans (hb.mono HB2.out.size)
    clear hb
    go_wp2_with fail
    go_ret
    exact ⟨rfl, HB4.out⟩
end Go.Proofs.Ytbcgfhkhbbkhnaa
