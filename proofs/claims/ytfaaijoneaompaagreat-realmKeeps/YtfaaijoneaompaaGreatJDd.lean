/-
  slices.Equal over hands; the reference's SameRealm.
-/
import Derived.Test.YtfaaijoneaompaaGreatJDbDcDe
import Derived.Test.YtfaaijoneaompaaGreatJDnDgRaRbWeRc
import Derived.Laws.StructEq
namespace Go.Proofs.YtfaaijoneaompaaGreat
open Go.RowKit
set_option linter.unusedVariables false

theorem hand_ext {A B : List (Int × Int)} (hl : A.length = B.length) (h : ∀ i, i < A.length → A.getD i (0, 0) = B.getD i (0, 0)) : A = B := by
  refine List.ext_getElem hl fun i h1 h2 => ?_
  have := h i h1
  rwa [getD_elem _ _ h1, getD_elem _ _ h2] at this

set_option maxRecDepth 100000 in
set_option maxHeartbeats 1000000 in
theorem equalHands_any (a a' : Option Addr) (c c' : Nat) (A B : List (Int × Int)) (w : World) (hN : A.length ≤ 9223372036854775807) (h1 : HandsAt w a A) (h2 : HandsAt w a' B) :
    Calls Tryz.prog 21 #[.slice a A.length c, .slice a' B.length c'] w fun e w' => ∃ r : Bool, e = .returned (.bool r) ∧ Below w.heap.size w w' ∧ (r = true ↔ A = B) := by
  by_cases hl : A.length = B.length
  · have E1 : Hid ((∀ i, i < A.length → A.getD i (0, 0) = B.getD i (0, 0)) → A = B) := fun h => hand_ext hl h
    have E2 : Hid (∀ i, A.getD i (0, 0) ≠ B.getD i (0, 0) → A ≠ B) := fun i h e => h (by rw [e])
    have H1 : Hid (HandsAt w a A) := h1
    have H2 : Hid (HandsAt w a' B) := h2
    have HL : Hid (B.length = A.length) := hl.symm
    rw [← hl]
    clear h1 h2 hl
    obtain ⟨n, hn⟩ : ∃ n, A.length = n := ⟨_, rfl⟩
    have HN : Hid (A.length = n) := hn
    rw [hn] at hN E1 HL ⊢
    clear hn
    go_enter Tryz.func21, Tryz.ntmps21
    go_wp2
    go_loopg [13] n (fun g s13 wr => ∃ k : Nat, k ≤ n ∧ n - k ≤ g ∧ s13 = .int .i64 k ∧ Below w.heap.size w wr ∧ Hid (∀ i, i < k → A.getD i (0, 0) = B.getD i (0, 0)))
    case atStart => exact ⟨0, by omega, by omega, rfl, Below.refl _ _, fun i hi => by omega⟩
    case round =>
      obtain ⟨k, hk, hg, rfl, hb, AA⟩ := hrel
      by_cases hlt : k < n
      · have hlt2 : (k : Int) < (n : Int) := by omega
        obtain ⟨b, o, rfl, c0, c1⟩ := (H1.out.below hb) k (by rw [HN.out]; exact hlt)
        obtain ⟨b', o', rfl, e0, e1⟩ := (H2.out.below hb) k (by rw [HL.out]; exact hlt)
        have KK : Hid (A.getD k (0, 0) = B.getD k (0, 0) → ∀ i, i < k + 1 → A.getD i (0, 0) = B.getD i (0, 0)) := fun h i hi => by
          by_cases e : i = k
          · subst e; exact h
          · exact AA.out i (by omega)
        have EE : Hid _ := E2.out k
        generalize A.getD k (0, 0) = x at *
        generalize B.getD k (0, 0) = y at *
        obtain ⟨x0, x1⟩ := x
        obtain ⟨y0, y1⟩ := y
        dsimp only at c0 c1 e0 e1
        by_cases q0 : x0 = y0
        · subst q0
          by_cases q1 : x1 = y1
          · subst q1
            go_wp2_with fail
            go_quiet (fail)
            go_wp2
            go_roundg (n - (k + 1))
            case measure => omega
            case rel => exact ⟨k + 1, by omega, by omega, by go_num, belowN' hb _, KK.out trivial⟩
          · have q2 : (x1 == y1) = false := beq_eq_false_iff_ne.2 q1
            have q3 : decide (x1 = y1) = false := decide_eq_false q1
            have NE : Hid (A ≠ B) := EE.out (fun h => q1 (congrArg Prod.snd h))
            go_wp2_with fail
            go_quiet (fail)
            go_wp2
            go_ret
            exact ⟨false, rfl, belowN' hb _, ⟨fun h => (by cases h), fun h => absurd h NE.out⟩⟩
        · have q2 : (x0 == y0) = false := beq_eq_false_iff_ne.2 q0
          have q3 : decide (x0 = y0) = false := decide_eq_false q0
          have NE : Hid (A ≠ B) := EE.out (fun h => q0 (congrArg Prod.fst h))
          go_wp2_with fail
          go_quiet (fail)
          go_wp2
          go_ret
          exact ⟨false, rfl, belowN' hb _, ⟨fun h => (by cases h), fun h => absurd h NE.out⟩⟩
      · have : k = n := by omega
        subst this
        have Y : Hid (A = B) := E1.out AA.out
        go_wp2
        go_ret
        exact ⟨true, rfl, hb, ⟨fun _ => Y.out, fun _ => rfl⟩⟩
  · have hne : A ≠ B := fun e => hl (by rw [e])
    have HNE : Hid (A ≠ B) := hne
    have hl2 : decide ((A.length : Int) = (B.length : Int)) = false := decide_eq_false (by omega)
    have hl3 : ((A.length : Int) == (B.length : Int)) = false := beq_eq_false_iff_ne.2 (by omega)
    have hl4 : (A.length == B.length) = false := beq_eq_false_iff_ne.2 hl
    clear h1 h2 hne
    generalize A.length = n at *
    generalize B.length = m at *
    go_enter Tryz.func21, Tryz.ntmps21
    go_wp2
    go_ret
    exact ⟨false, rfl, Below.refl _ _, ⟨fun h => (by cases h), fun h => absurd h HNE.out⟩⟩

theorem rl_ext {R Q : Rl} : R = Q ↔ R.s = Q.s ∧ R.hs = Q.hs ∧ R.i = Q.i ∧ R.t = Q.t := by
  cases R
  cases Q
  simp

set_option maxRecDepth 100000 in
set_option maxHeartbeats 2000000 in
theorem rsameR_any (A B : RA) (R Q : Rl) (w : World) (hB : BigR R) (h1 : RlAt w A R) (h2 : RlAt w B Q) :
    Calls Tryz.prog 10 #[rlV A R, rlV B Q] w fun e w' => ∃ r : Bool, e = .returned (.bool r) ∧ Below w.heap.size w w' ∧ (r = true ↔ R = Q) := by
  obtain ⟨a0, a1, a2, a3, c0, c1, c2, c3⟩ := A
  obtain ⟨b0, b1, b2, b3, d0, d1, d2, d3⟩ := B
  have EX : Hid (R = Q ↔ R.s = Q.s ∧ R.hs = Q.hs ∧ R.i = Q.i ∧ R.t = Q.t) := rl_ext
  obtain ⟨g1, g2, g3, g4, g5, g6⟩ := hB
  have D1 : Hid (∀ W, Below w.heap.size w W → _) := fun W hW => rSame_any a0 b0 c0 d0 R.s Q.s W g1 g2 (h1.1.below hW) (h2.1.below hW)
  have D2 : Hid (∀ W, Below w.heap.size w W → _) := fun W hW => equalHands_any a1 b1 c1 d1 R.hs Q.hs W g3 (h1.2.1.below hW) (h2.2.1.below hW)
  have D3 : Hid (∀ W, Below w.heap.size w W → _) := fun W hW => rgsame_any a2 b2 c2 d2 R.i Q.i W g4 g5 (h1.2.2.1.below hW) (h2.2.2.1.below hW)
  have D4 : Hid (∀ W, Below w.heap.size w W → Calls Tryz.prog 9 #[.slice a3 R.t.length c3, .slice b3 Q.t.length d3] W fun e w' => ∃ r : Bool, e = .returned (.bool r) ∧ Below W.heap.size W w' ∧ (r = true ↔ R.t = Q.t)) := fun W hW => (equal_any a3 b3 c3 d3 R.t Q.t W g6 (h1.2.2.2.below hW) (h2.2.2.2.below hW)).mono fun e w' ⟨e1, hb⟩ => ⟨_, e1, hb, decide_eq_true_iff⟩
  clear h1 h2 g1 g2 g3 g4 g5 g6
  dsimp only [rlV]
  generalize R.s = x0 at *
  generalize Q.s = y0 at *
  generalize R.hs = x1 at *
  generalize Q.hs = y1 at *
  generalize R.i = x2 at *
  generalize Q.i = y2 at *
  generalize R.t = x3 at *
  generalize Q.t = y3 at *
  generalize x0.length = m0 at *
  generalize y0.length = n0 at *
  generalize x1.length = m1 at *
  generalize y1.length = n1 at *
  generalize x2.length = m2 at *
  generalize y2.length = n2 at *
  generalize x3.length = m3 at *
  generalize y3.length = n3 at *
  go_enter Tryz.func10, Tryz.ntmps10
  go_wp2_with fail
  refine Calls.mono (D1.out _ (two_belowS _ _ _)) ?_
  rintro e W1 ⟨r1, rfl, hb, hr⟩
  have HR1 : Hid _ := hr
  clear hr
  have HB : Hid (Below w.heap.size w W1) := (two_belowS w _ _).trans (hb.mono (by simp; omega))
  have l0 := keepC (alloc_cell1 w #[.slice a0 m0 c0, .slice a1 m1 c1, .slice a2 m2 c2, .slice a3 m3 c3] 31 0 (.cells #[.slice b0 n0 d0, .slice b1 n1 d1, .slice b2 n2 d2, .slice b3 n3 d3] 31) rfl) hb
  have m0' := keepC (alloc_cell2 w #[.slice b0 n0 d0, .slice b1 n1 d1, .slice b2 n2 d2, .slice b3 n3 d3] 31 0 (.cells #[.slice a0 m0 c0, .slice a1 m1 c1, .slice a2 m2 c2, .slice a3 m3 c3] 31) rfl) hb
  have l1 := keepC (alloc_cell1 w #[.slice a0 m0 c0, .slice a1 m1 c1, .slice a2 m2 c2, .slice a3 m3 c3] 31 1 (.cells #[.slice b0 n0 d0, .slice b1 n1 d1, .slice b2 n2 d2, .slice b3 n3 d3] 31) rfl) hb
  have m1' := keepC (alloc_cell2 w #[.slice b0 n0 d0, .slice b1 n1 d1, .slice b2 n2 d2, .slice b3 n3 d3] 31 1 (.cells #[.slice a0 m0 c0, .slice a1 m1 c1, .slice a2 m2 c2, .slice a3 m3 c3] 31) rfl) hb
  have l2 := keepC (alloc_cell1 w #[.slice a0 m0 c0, .slice a1 m1 c1, .slice a2 m2 c2, .slice a3 m3 c3] 31 2 (.cells #[.slice b0 n0 d0, .slice b1 n1 d1, .slice b2 n2 d2, .slice b3 n3 d3] 31) rfl) hb
  have m2' := keepC (alloc_cell2 w #[.slice b0 n0 d0, .slice b1 n1 d1, .slice b2 n2 d2, .slice b3 n3 d3] 31 2 (.cells #[.slice a0 m0 c0, .slice a1 m1 c1, .slice a2 m2 c2, .slice a3 m3 c3] 31) rfl) hb
  have l3 := keepC (alloc_cell1 w #[.slice a0 m0 c0, .slice a1 m1 c1, .slice a2 m2 c2, .slice a3 m3 c3] 31 3 (.cells #[.slice b0 n0 d0, .slice b1 n1 d1, .slice b2 n2 d2, .slice b3 n3 d3] 31) rfl) hb
  have m3' := keepC (alloc_cell2 w #[.slice b0 n0 d0, .slice b1 n1 d1, .slice b2 n2 d2, .slice b3 n3 d3] 31 3 (.cells #[.slice a0 m0 c0, .slice a1 m1 c1, .slice a2 m2 c2, .slice a3 m3 c3] 31) rfl) hb
  clear hb D1
  cases r1
  · go_wp2_with fail
    go_ret
    exact ⟨_, rfl, HB.out, ⟨fun h => (by cases h), fun h => (by have := HR1.out.2 ((EX.out.1 h).1); cases this)⟩⟩
  go_wp2_with fail
  refine Calls.mono (D2.out _ HB.out) ?_
  rintro e W2 ⟨r2, rfl, hb, hr⟩
  have HR2 : Hid _ := hr
  clear hr
  have HB : Hid (Below w.heap.size w W2) := HB.out.trans (hb.mono HB.out.size)
  have l0 := keepC l0 hb
  have m0' := keepC m0' hb
  have l1 := keepC l1 hb
  have m1' := keepC m1' hb
  have l2 := keepC l2 hb
  have m2' := keepC m2' hb
  have l3 := keepC l3 hb
  have m3' := keepC m3' hb
  clear hb D2
  cases r2
  · go_wp2_with fail
    go_ret
    exact ⟨_, rfl, HB.out, ⟨fun h => (by cases h), fun h => (by have := HR2.out.2 ((EX.out.1 h).2.1); cases this)⟩⟩
  go_wp2_with fail
  refine Calls.mono (D3.out _ HB.out) ?_
  rintro e W3 ⟨r3, rfl, hb, hr⟩
  have HR3 : Hid _ := hr
  clear hr
  have HB : Hid (Below w.heap.size w W3) := HB.out.trans (hb.mono HB.out.size)
  have l0 := keepC l0 hb
  have m0' := keepC m0' hb
  have l1 := keepC l1 hb
  have m1' := keepC m1' hb
  have l2 := keepC l2 hb
  have m2' := keepC m2' hb
  have l3 := keepC l3 hb
  have m3' := keepC m3' hb
  clear hb D3
  cases r3
  · go_wp2_with fail
    go_ret
    exact ⟨_, rfl, HB.out, ⟨fun h => (by cases h), fun h => (by have := HR3.out.2 ((EX.out.1 h).2.2.1); cases this)⟩⟩
  go_wp2_with fail
  refine Calls.mono (D4.out _ HB.out) ?_
  rintro e W4 ⟨r4, rfl, hb, hr⟩
  have HR4 : Hid _ := hr
  clear hr
  have HB : Hid (Below w.heap.size w W4) := HB.out.trans (hb.mono HB.out.size)
  have l0 := keepC l0 hb
  have m0' := keepC m0' hb
  have l1 := keepC l1 hb
  have m1' := keepC m1' hb
  have l2 := keepC l2 hb
  have m2' := keepC m2' hb
  have l3 := keepC l3 hb
  have m3' := keepC m3' hb
  clear hb D4
  go_wp2_with fail
  go_ret
  exact ⟨_, rfl, HB.out, ⟨fun h => EX.out.2 ⟨HR1.out.1 trivial, HR2.out.1 trivial, HR3.out.1 trivial, HR4.out.1 h⟩, fun h => HR4.out.2 (EX.out.1 h).2.2.2⟩⟩
end Go.Proofs.YtfaaijoneaompaaGreat
