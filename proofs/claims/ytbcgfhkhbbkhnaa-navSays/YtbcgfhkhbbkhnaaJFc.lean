/-
  Contracts of Check, Holds, Within over frames.
-/
import Derived.Test.YtbcgfhkhbbkhnaaJFb
namespace Go.Proofs.Ytbcgfhkhbbkhnaa
open Go.RowKit
set_option linter.unusedVariables false

set_option maxRecDepth 100000 in
set_option maxHeartbeats 2000000 in
theorem checkFrame_any (a : Option Addr) (c : Nat) (L : List Fr) (k : Nat) (w : World) (hN : L.length ≤ 8) (hk : k < L.length) (hL : FrsAt w a L) :
    Calls Try.prog 19 #[.slice a L.length c, .int .i64 k] w fun e w' => e = .returned (.int .i64 (frE L k)) ∧ Below w.heap.size w w' := by
  have DW : Hid _ := parentFits_any (fr L k) k (by omega)
  have DR : Hid _ := inRangeF_any (fr L k)
  have HL : Hid (FrsAt w a L) := hL
  have hk2 : (k : Int) < (L.length : Int) := by omega
  obtain ⟨b, o, ea, c0, c1, c2, c3, c4⟩ := hL k hk
  subst ea
  clear hL
  by_cases h1 : whoOk (fr L k) k
  · rw [decide_eq_true h1] at DW
    by_cases h2 : rangeOk (fr L k)
    · rw [decide_eq_true h2] at DR
      by_cases h0 : 0 < k
      · have hp : 0 ≤ (fr L k).p ∧ (fr L k).p ≤ (k : Int) - 1 := by unfold whoOk at h1; rwa [if_neg (by omega)] at h1
        obtain ⟨q, hq⟩ := Int.eq_ofNat_of_zero_le hp.1
        have hq' : q < L.length := by omega
        have DF : Hid _ := fitsInto_any (fr L k) (fr L q)
        obtain ⟨b', o', ea, d0, d1, d2, d3, d4⟩ := HL.out q hq'
        cases ea
        have hE : frE L k = if decide (fitOk (fr L k) (fr L q)) = true then 0 else 3 := by
          unfold frE
          rw [if_neg (not_not_intro h1), if_neg (not_not_intro h2), hq, Int.toNat_natCast]
          by_cases h : fitOk (fr L k) (fr L q)
          · rw [if_neg (fun hh => hh.2 h), if_pos (decide_eq_true h)]
          · rw [if_pos ⟨h0, h⟩, if_neg (by rw [decide_eq_false h]; simp)]
        rw [hE]
        rw [hq] at c0
        have hw : ((fr L k).p : Int) = (q : Int) := hq
        generalize decide (fitOk (fr L k) (fr L q)) = r at *
        have hq2 : (q : Int) < (L.length : Int) := by omega
        have hk0 : decide ((0 : Int) < (k : Int)) = true := decide_eq_true (by omega)
        clear hE hp HL h1 h2
        generalize fr L k = x at *
        generalize fr L q = y at *
        obtain ⟨xp, xo, xm, xt, xg⟩ := x
        obtain ⟨yp, yo, ym, yt, yg⟩ := y
        dsimp only at c0 c1 c2 c3 c4 d0 d1 d2 d3 d4 hw
        have HW : Hid _ := hw
        have hxp := hw
        subst hxp
        clear hw hq HW
        generalize L.length = n at *
        go_enter Try.func19, Try.ntmps19
        go_wp2_with fail
        refine Calls.mono (DW.out _) ?_
        rintro e w1 ⟨rfl, hw1⟩
        subst hw1
        go_wp2_with fail
        refine Calls.mono (DR.out _) ?_
        rintro e w2 ⟨rfl, hb2⟩
        have HB2 : Hid (Below w1.heap.size w1 w2) := hb2
        replace ⟨c0, c1, c2, c3, c4⟩ := keep5 hb2 c0 c1 c2 c3 c4
        replace ⟨d0, d1, d2, d3, d4⟩ := keep5 hb2 d0 d1 d2 d3 d4
        clear hb2
        go_wp2_with fail
        go_region_held3 (fun w'' => w''.cell? ⟨b, o + k * 5, none⟩ = some (.int .i64 (q : Int)) ∧ w''.cell? ⟨b, o + k * 5 + 1, none⟩ = some (.int .i64 xo) ∧ w''.cell? ⟨b, o + k * 5 + 2, none⟩ = some (.int .i64 xm) ∧ w''.cell? ⟨b, o + k * 5 + 3, none⟩ = some (.int .i64 xt) ∧ w''.cell? ⟨b, o + k * 5 + 4, none⟩ = some (.bool xg) ∧ w''.cell? ⟨b, o + q * 5, none⟩ = some (.int .i64 yp) ∧ w''.cell? ⟨b, o + q * 5 + 1, none⟩ = some (.int .i64 yo) ∧ w''.cell? ⟨b, o + q * 5 + 2, none⟩ = some (.int .i64 ym) ∧ w''.cell? ⟨b, o + q * 5 + 3, none⟩ = some (.int .i64 yt) ∧ w''.cell? ⟨b, o + q * 5 + 4, none⟩ = some (.bool yg)) (go_keep) (first | (go_at_call 28; refine Calls.mono (DF.out _) ?_; rintro e w3 ⟨rfl, hb3⟩; have hb4 : Below w2.heap.size w2 w3 := (Below.refl w2.heap.size w2).drew.trans hb3; have HB3 : Hid (Below w1.heap.size w1 w3) := (HB2.out.trans (hb4.mono HB2.out.size)); obtain ⟨m0, m1, m2, m3, m4⟩ := keep5 hb4 c0 c1 c2 c3 c4; obtain ⟨n0, n1, n2, n3, n4⟩ := keep5 hb4 d0 d1 d2 d3 d4; clear hb3 hb4))
        all_goals
          cases r
          · go_wp2_with fail
            go_ret
            exact ⟨rfl, HB3.out⟩
          · go_wp2_with fail
            go_ret
            exact ⟨rfl, HB3.out⟩
      · have hk00 : k = 0 := by omega
        subst hk00
        have hE : frE L 0 = 0 := by
          unfold frE
          rw [if_neg (not_not_intro h1), if_neg (not_not_intro h2), if_neg (fun hh => absurd hh.1 (by omega))]
        rw [hE]
        clear hE HL h1 h2
        generalize fr L 0 = x at *
        obtain ⟨xp, xo, xm, xt, xg⟩ := x
        simp only [Nat.zero_mul, Nat.add_zero] at c0 c1 c2 c3 c4
        generalize L.length = n at *
        go_enter Try.func19, Try.ntmps19
        go_wp2_with fail
        refine Calls.mono (DW.out _) ?_
        rintro e w1 ⟨rfl, hw1⟩
        subst hw1
        go_wp2_with fail
        refine Calls.mono (DR.out _) ?_
        rintro e w2 ⟨rfl, hb2⟩
        have HB2 : Hid (Below w1.heap.size w1 w2) := hb2
        clear hb2
        go_wp2_with fail
        go_big_quiet (fail)
        go_wp2_with fail
        go_ret
        exact ⟨rfl, belowN HB2.out _⟩
    · rw [decide_eq_false h2] at DR
      have hE : frE L k = 2 := by
        unfold frE
        rw [if_neg (not_not_intro h1), if_pos h2]
      rw [hE]
      clear hE HL h1 h2
      generalize fr L k = x at *
      obtain ⟨xp, xo, xm, xt, xg⟩ := x
      dsimp only at c0 c1 c2 c3 c4
      generalize L.length = n at *
      go_enter Try.func19, Try.ntmps19
      go_wp2_with fail
      refine Calls.mono (DW.out _) ?_
      rintro e w1 ⟨rfl, hw1⟩
      subst hw1
      go_wp2_with fail
      refine Calls.mono (DR.out _) ?_
      rintro e w2 ⟨rfl, hb2⟩
      have HB2 : Hid (Below w1.heap.size w1 w2) := hb2
      clear hb2
      go_wp2_with fail
      go_ret
      exact ⟨rfl, HB2.out⟩
  · rw [decide_eq_false h1] at DW
    have hE : frE L k = 4 := by
      unfold frE
      rw [if_pos h1]
    rw [hE]
    clear hE HL h1 DR
    generalize fr L k = x at *
    obtain ⟨xp, xo, xm, xt, xg⟩ := x
    dsimp only at c0 c1 c2 c3 c4
    generalize L.length = n at *
    go_enter Try.func19, Try.ntmps19
    go_wp2_with fail
    refine Calls.mono (DW.out _) ?_
    rintro e w1 ⟨rfl, hw1⟩
    subst hw1
    go_wp2_with fail
    go_ret
    exact ⟨rfl, Below.refl _ _⟩

set_option maxRecDepth 100000 in
set_option maxHeartbeats 1000000 in
theorem fcheck_any (a : Option Addr) (c : Nat) (L : List Fr) (w : World) (hN : L.length ≤ 9223372036854775807) (hL : FrsAt w a L) :
    Calls Try.prog 11 #[.slice a L.length c] w fun e w' => e = .returned (.int .i64 (fcheckE L)) ∧ Below w.heap.size w w' := by
  by_cases hm : 8 < L.length
  · have e : fcheckE L = 1 := by unfold fcheckE; rw [if_pos hm]
    rw [e]
    have hm2 : decide ((8 : Int) < (L.length : Int)) = true := decide_eq_true (by omega)
    clear hL e
    generalize L.length = n at *
    go_enter Try.func11, Try.ntmps11
    go_wp2_with fail
    go_ret
    exact ⟨rfl, Below.refl _ _⟩
  · have e : fcheckE L = fErr L 0 := by unfold fcheckE; rw [if_neg hm]
    rw [e]
    have D : Hid (∀ (k : Nat) (W : World), k < L.length → FrsAt W a L → Calls Try.prog 19 #[.slice a L.length c, .int .i64 k] W fun e w' => e = .returned (.int .i64 (frE L k)) ∧ Below W.heap.size W w') := fun k W hk hW => checkFrame_any a c L k W (by omega) hk hW
    have HL : Hid (FrsAt w a L) := hL
    have hm2 : decide ((8 : Int) < (L.length : Int)) = false := decide_eq_false (by omega)
    have ST : Hid (∀ i, i < L.length → fErr L i = if frE L i = 0 then fErr L (i + 1) else frE L i) := fun i hi => fErr_step hi
    have EN : Hid (fErr L L.length = 0) := fErr_end (Nat.le_refl _)
    clear hL e
    obtain ⟨E, hE⟩ : ∃ E, fErr L 0 = E := ⟨_, rfl⟩
    have HE : Hid (fErr L 0 = E) := hE
    rw [hE]
    clear hE
    obtain ⟨n, hn⟩ : ∃ n, L.length = n := ⟨_, rfl⟩
    have HN : Hid (L.length = n) := hn
    rw [hn] at hN hm hm2 ST EN D ⊢
    clear hn
    go_enter Try.func11, Try.ntmps11
    go_wp2_with fail
    go_loopg [10] n (fun g s10 wr => ∃ i : Nat, i ≤ n ∧ n - i ≤ g ∧ s10 = .int .i64 i ∧ Hid (Below w.heap.size w wr) ∧ Hid (fErr L i = E))
    case atStart => exact ⟨0, by omega, by omega, rfl, Below.refl _ _, HE⟩
    case round =>
      obtain ⟨i, hi, hg, rfl, HBr, HEi⟩ := hrel
      clear HE
      by_cases hlt : i < n
      · have hlt2 : (i : Int) < (n : Int) := by omega
        have STi : Hid _ := (ST.out i hlt).symm.trans HEi.out
        have Di : Hid _ := D.out i wr hlt (HL.out.below HBr.out)
        generalize frE L i = x at *
        by_cases hx : x = 0
        · have HEE : Hid (fErr L (i + 1) = E) := by have h := STi.out; rwa [if_pos hx] at h
          subst hx
          clear STi
          go_wp2_with fail
          refine Calls.mono Di.out ?_
          rintro e w1 ⟨rfl, hb1⟩
          have HB1 : Hid (Below w.heap.size w w1) := HBr.out.trans (hb1.mono HBr.out.size)
          clear hb1
          go_wp2_with fail
          go_roundg (n - (i + 1))
          case measure => omega
          case rel => exact ⟨i + 1, by omega, by omega, by go_num, HB1, HEE⟩
        · have HEE : Hid (x = E) := by have h := STi.out; rwa [if_neg hx] at h
          have hx2 : decide (x = 0) = false := decide_eq_false hx
          clear STi
          go_wp2_with fail
          refine Calls.mono Di.out ?_
          rintro e w1 ⟨rfl, hb1⟩
          have HB1 : Hid (Below w.heap.size w w1) := HBr.out.trans (hb1.mono HBr.out.size)
          clear hb1
          go_wp2_with fail
          go_ret
          exact ⟨by rw [HEE.out]; rfl, HB1.out⟩
      · have hie : i = n := by omega
        subst hie
        have HEE : Hid ((0 : Int) = E) := EN.out.symm.trans HEi.out
        clear HEi
        go_wp2_with fail
        go_ret
        exact ⟨by rw [HEE.out]; rfl, HBr.out⟩

set_option maxHeartbeats 400000 in
theorem isFrame_any (a : Option Addr) (c n : Nat) (k : Int) (w : World) (hN : n ≤ 9223372036854775807) :
    Calls Try.prog 20 #[.slice a n c, .int .i64 k] w fun e w' => e = .returned (.bool (decide (0 ≤ k ∧ k < n))) ∧ w' = w := by
  have e : decide (0 ≤ k ∧ k < n) = decide (0 ≤ k ∧ k ≤ (n : Int) - 1) := decide_eq_decide.2 (by omega)
  rw [e]
  have HW : Hid _ := gwithin_any k 0 ((n : Int) - 1)
  clear e
  generalize decide (0 ≤ k ∧ k ≤ (n : Int) - 1) = r at *
  go_enter Try.func20, Try.ntmps20
  go_wp2_with fail
  refine Calls.mono (HW.out _) ?_
  rintro e w1 ⟨rfl, rfl⟩
  go_wp2
  go_ret
  exact ⟨rfl, rfl⟩

set_option maxHeartbeats 400000 in
theorem fholds_any (a : Option Addr) (c : Nat) (L : List Fr) (k : Int) (w : World) (hN : L.length ≤ 9223372036854775807) (hL : FrsAt w a L) :
    Calls Try.prog 12 #[.slice a L.length c, .int .i64 k] w fun e w' => e = .returned (.int .i64 (fholdsE L k)) ∧ w' = w := by
  have D : Hid _ := isFrame_any a c L.length k w hN
  unfold fholdsE
  by_cases h1 : 0 ≤ k ∧ k < L.length
  · rw [decide_eq_true h1] at D
    rw [if_neg (not_not_intro h1)]
    obtain ⟨q, rfl⟩ := Int.eq_ofNat_of_zero_le h1.1
    obtain ⟨b, o, ea, c0, c1, c2, c3, c4⟩ := hL q (by omega)
    subst ea
    rw [Int.toNat_natCast]
    have hq2 : (q : Int) < (L.length : Int) := by omega
    clear hL h1
    generalize fr L q = x at *
    obtain ⟨xp, xo, xm, xt, xg⟩ := x
    dsimp only at c0 c1 c2 c3 c4
    dsimp only
    generalize L.length = n at *
    cases xg
    all_goals
      go_enter Try.func12, Try.ntmps12
      go_wp2_with fail
      refine Calls.mono D.out ?_
      rintro e w1 ⟨rfl, hw1⟩
      subst hw1
      go_wp2_with fail
      go_ret
      exact ⟨rfl, rfl⟩
  · rw [decide_eq_false h1] at D
    rw [if_pos h1]
    clear hL h1
    generalize L.length = n at *
    go_enter Try.func12, Try.ntmps12
    go_wp2_with fail
    refine Calls.mono D.out ?_
    rintro e w1 ⟨rfl, hw1⟩
    subst hw1
    go_wp2_with fail
    go_ret
    exact ⟨rfl, rfl⟩

set_option maxHeartbeats 400000 in
theorem checkHeld_any (a : Option Addr) (c : Nat) (L : List Fr) (k : Int) (w : World) (hN : L.length ≤ 9223372036854775807) (hL : FrsAt w a L) :
    Calls Try.prog 23 #[.slice a L.length c, .int .i64 k] w fun e w' => e = .returned (.int .i64 (heldE L k)) ∧ Below w.heap.size w w' := by
  have D : Hid _ := fcheck_any a c L w hN hL
  have DH : Hid (∀ W, FrsAt W a L → _) := fun W hW => fholds_any a c L k W hN hW
  have HL : Hid (FrsAt w a L) := hL
  unfold heldE
  clear hL
  generalize fcheckE L = E at *
  generalize fholdsE L k = F at *
  by_cases h : E = 0
  · rw [if_pos h]
    subst h
    obtain ⟨n, hn⟩ : ∃ n, L.length = n := ⟨_, rfl⟩
    rw [hn] at hN D DH ⊢
    clear hn
    go_enter Try.func23, Try.ntmps23
    go_wp2_with fail
    refine Calls.mono D.out ?_
    rintro e w1 ⟨rfl, hb1⟩
    have HB1 : Hid (Below w.heap.size w w1) := hb1
    clear hb1
    go_wp2_with fail
    refine Calls.mono (DH.out _ (HL.out.below HB1.out)) ?_
    rintro e w2 ⟨rfl, hw2⟩
    subst hw2
    go_wp2_with fail
    go_ret
    exact ⟨rfl, HB1.out⟩
  · rw [if_neg h]
    have h2 : decide (E = 0) = false := decide_eq_false h
    obtain ⟨n, hn⟩ : ∃ n, L.length = n := ⟨_, rfl⟩
    rw [hn] at hN D DH ⊢
    clear hn
    go_enter Try.func23, Try.ntmps23
    go_wp2_with fail
    refine Calls.mono D.out ?_
    rintro e w1 ⟨rfl, hb1⟩
    have HB1 : Hid (Below w.heap.size w w1) := hb1
    clear hb1
    go_wp2_with fail
    go_ret
    exact ⟨rfl, HB1.out⟩

set_option maxRecDepth 100000 in
set_option maxHeartbeats 1000000 in
theorem fwithin_any (a : Option Addr) (c : Nat) (L : List Fr) (k top : Int) (w : World) (hN : L.length ≤ 9223372036854775807) (hL : FrsAt w a L) :
    Calls Try.prog 13 #[.slice a L.length c, .int .i64 k, .int .i64 top] w fun e w' => e = .returned (.bool (inF L k top)) ∧ w' = w := by
  unfold inF
  have D : Hid (∀ k W, _) := fun k W => isFrame_any a c L.length k W hN
  have HL : Hid (FrsAt w a L) := hL
  have ST : Hid (∀ n k, withF L (n + 1) k top = if 0 ≤ k ∧ k < L.length then (if k = top then true else withF L n (fr L k.toNat).p top) else false) := fun n k => by rw [withF]
  have EN : Hid (∀ k, withF L 0 k top = false) := fun k => rfl
  clear hL
  obtain ⟨E, hE⟩ : ∃ E, withF L L.length k top = E := ⟨_, rfl⟩
  have HE : Hid (withF L L.length k top = E) := hE
  rw [hE]
  clear hE
  obtain ⟨n, hn⟩ : ∃ n, L.length = n := ⟨_, rfl⟩
  have HN : Hid (L.length = n) := hn
  rw [hn] at hN ST D HE ⊢
  clear hn
  go_enter Try.func13, Try.ntmps13
  go_wp2_with fail
  go_loopg [7, 11] n (fun g s7 s11 wr => ∃ (i : Nat) (k : Int), i ≤ n ∧ n - i ≤ g ∧ s11 = .int .i64 i ∧ s7 = .int .i64 k ∧ wr = w ∧ Hid (withF L (n - i) k top = E))
  case atStart => exact ⟨0, k, by omega, by omega, rfl, rfl, rfl, HE⟩
  case round =>
    obtain ⟨i, k, hi, hg, rfl, rfl, hwr, HEi⟩ := hrel
    subst hwr
    clear HE
    by_cases hlt : i < n
    · have hlt2 : (i : Int) < (n : Int) := by omega
      have Di := D.out k wr
      have STi : Hid _ := (ST.out (n - (i + 1)) k).symm.trans ((by rw [show n - (i + 1) + 1 = n - i by omega] : withF L (n - (i + 1) + 1) k top = withF L (n - i) k top).trans HEi.out)
      by_cases hk : 0 ≤ k ∧ k < n
      · rw [decide_eq_true hk] at Di
        have DI : Hid _ := Di
        obtain ⟨q, rfl⟩ := Int.eq_ofNat_of_zero_le hk.1
        have hq2 : (q : Int) < (n : Int) := by omega
        obtain ⟨b, o, ea, c0, c1, c2, c3, c4⟩ := HL.out q (by rw [HN.out]; omega)
        subst ea
        have h := STi.out
        rw [if_pos hk, Int.toNat_natCast] at h
        generalize fr L q = x at *
        obtain ⟨xp, xo, xm, xt, xg⟩ := x
        dsimp only at c0 c1 c2 c3 c4 h
        by_cases e : (q : Int) = top
        · rw [if_pos e] at h
          have HEE : Hid (true = E) := h
          subst e
          clear STi h Di hk
          go_wp2_with fail
          refine Calls.mono DI.out ?_
          rintro e w1 ⟨rfl, hw1⟩
          subst hw1
          go_wp2_with fail
          go_ret
          exact ⟨by rw [HEE.out]; rfl, rfl⟩
        · rw [if_neg e] at h
          have HEE : Hid _ := h
          have e2 : decide ((q : Int) = top) = false := decide_eq_false e
          have e3 : ((q : Int) == top) = false := by simp [e]
          clear STi h Di hk
          go_wp2_with fail
          refine Calls.mono DI.out ?_
          rintro e w1 ⟨rfl, hw1⟩
          subst hw1
          go_wp2_with fail
          go_roundg (n - (i + 1))
          case measure => omega
          case rel => exact ⟨i + 1, xp, by omega, by omega, by go_num, rfl, rfl, HEE⟩
      · rw [decide_eq_false hk] at Di
        have DI : Hid _ := Di
        have HEE : Hid (false = E) := by have h := STi.out; rwa [if_neg hk] at h
        clear STi hk Di
        go_wp2_with fail
        refine Calls.mono DI.out ?_
        rintro e w1 ⟨rfl, hw1⟩
        subst hw1
        go_wp2_with fail
        go_ret
        exact ⟨by rw [HEE.out]; rfl, rfl⟩
    · have hie : i = n := by omega
      subst hie
      have HEE : Hid (false = E) := by have h := HEi.out; rw [Nat.sub_self] at h; exact (EN.out k).symm.trans h
      clear HEi
      go_wp2_with fail
      go_ret
      exact ⟨by rw [HEE.out]; rfl, rfl⟩
end Go.Proofs.Ytbcgfhkhbbkhnaa
