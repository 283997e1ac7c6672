/-
  The contracts of query.Check, Fits and Find.
-/
import Derived.Test.YtiekhgpnmcffiabJVe
import Derived.Test.YtiekhgpnmcffiabJWd
namespace Go.Proofs.Ytiekhgpnmcffiab
open Go.RowKit

def tOkB (te : Tst) : Bool := (decide (te.t = -1000001) || decide (0 ≤ te.t ∧ te.t ≤ 99)) && (decide (te.m = -1000001) || decide (-1000000 ≤ te.m ∧ te.m ≤ 1000000))

set_option maxHeartbeats 1000000 in
theorem tInRange_any (te : Tst) (w : World) :
    Calls Try.prog 59 #[.agg #[.int .i64 te.t, .int .i64 te.m, .bool te.near]] w fun e w' => e = .returned (.bool (tOkB te)) ∧ Below w.heap.size w w' := by
  obtain ⟨T, M, near⟩ := te
  unfold tOkB
  dsimp only
  have d1 := within_any T 0 99
  have d2 := within_any M (-1000000) 1000000
  generalize decide (0 ≤ T ∧ T ≤ 99) = b1 at *
  generalize decide (-1000000 ≤ M ∧ M ≤ 1000000) = b2 at *
  by_cases h1 : T = -1000001
  · subst h1
    simp only [decide_true, Bool.true_or, Bool.true_and]
    by_cases h2 : M = -1000001
    · subst h2
      simp only [decide_true, Bool.true_or]
      go_enter Try.func59, Try.ntmps59
      go_wp2
      go_ret
      exact ⟨rfl, (Below.refl _ _).alloc (Nat.le_refl _) _⟩
    · have e2 : (M == -1000001) = false := beq_eq_false_iff_ne.2 h2
      simp only [decide_eq_false h2, Bool.false_or]
      cases b2 <;>
      · go_enter Try.func59, Try.ntmps59
        go_wp2_with (go_at_call 58; refine (d2 _).mono ?_; rintro e w' ⟨rfl, rfl⟩)
        go_ret
        exact ⟨rfl, (Below.refl _ _).alloc (Nat.le_refl _) _⟩
  · have e1 : (T == -1000001) = false := beq_eq_false_iff_ne.2 h1
    simp only [decide_eq_false h1, Bool.false_or]
    cases b1 with
    | false =>
      simp only [Bool.false_and]
      go_enter Try.func59, Try.ntmps59
      go_wp2_with (go_at_call 58; refine (d1 _).mono ?_; rintro e w' ⟨rfl, rfl⟩)
      go_ret
      exact ⟨rfl, (Below.refl _ _).alloc (Nat.le_refl _) _⟩
    | true =>
      simp only [Bool.true_and]
      by_cases h2 : M = -1000001
      · subst h2
        simp only [decide_true, Bool.true_or]
        go_enter Try.func59, Try.ntmps59
        go_wp2_with (go_at_call 58; refine (d1 _).mono ?_; rintro e w' ⟨rfl, rfl⟩)
        go_ret
        exact ⟨rfl, (Below.refl _ _).alloc (Nat.le_refl _) _⟩
      · have e2 : (M == -1000001) = false := beq_eq_false_iff_ne.2 h2
        simp only [decide_eq_false h2, Bool.false_or]
        cases b2 <;>
        · go_enter Try.func59, Try.ntmps59
          go_wp2_with (first | (go_at_call_of 58 (Value.int .i64 99); refine (d1 _).mono ?_; rintro e w' ⟨rfl, rfl⟩) | (go_at_call_of 58 (Value.int .i64 1000000); refine (d2 _).mono ?_; rintro e w' ⟨rfl, rfl⟩))
          go_ret
          exact ⟨rfl, (Below.refl _ _).alloc (Nat.le_refl _) _⟩

/-- What is wrong with the tests from place k on. -/
def testsE : Nat → List Tst → Int
  | _, [] => 0
  | k, te :: r => if tOkB te then (if decide (k = 0) && te.near then 3 else testsE (k + 1) r) else 2
def qcheckE (q : List Tst) : Int := if decide (1 ≤ (q.length : Int) ∧ (q.length : Int) ≤ 6) then testsE 0 q else 1

theorem drop_tst {q : List Tst} {k : Nat} (h : k < q.length) : q.drop k = tst q k :: q.drop (k + 1) := drop_cons h

set_option maxHeartbeats 2000000 in
theorem qcheck_any (qa : Option Addr) (qc : Nat) (q : List Tst) (w : World) (hq : q.length ≤ 9223372036854775807) (hQ : TestsAt w qa q) :
    Calls Try.prog 24 #[.slice qa q.length qc] w fun e w' => e = .returned (.int .i64 (qcheckE q)) ∧ Below w.heap.size w w' := by
  have HQ : Hid (TestsAt w qa q) := hQ
  have d1 := within_any (q.length : Int) 1 6
  have DR : Hid (∀ k, k < q.length → testsE k (q.drop k) = if tOkB (tst q k) then (if decide (k = 0) && (tst q k).near then 3 else testsE (k + 1) (q.drop (k + 1))) else 2) := fun k hk => by rw [drop_tst hk]; rfl
  have DE : Hid (testsE q.length (q.drop q.length) = 0) := by show _ = _; rw [List.drop_length]; rfl
  unfold qcheckE
  clear hQ
  have H0 : Hid (testsE 0 q = testsE 0 (q.drop 0)) := rfl
  generalize testsE 0 q = E at *
  generalize hl : q.length = L at *
  have HL : Hid _ := hl
  clear hl
  cases hb : decide (1 ≤ (L : Int) ∧ (L : Int) ≤ 6) with
  | false =>
    rw [hb] at d1
    simp only [Bool.false_eq_true, if_false]
    clear hb
    go_enter Try.func24, Try.ntmps24
    go_wp2_with (go_at_call 58; refine (d1 _).mono ?_; rintro e w' ⟨rfl, hw'⟩; have hw2 := hw'.symm; clear hw'; subst hw2)
    go_ret
    exact ⟨rfl, Below.refl _ _⟩
  | true =>
    rw [hb] at d1
    simp only [if_true]
    clear hb
    go_enter Try.func24, Try.ntmps24
    go_wp2_with (go_at_call 58; refine (d1 _).mono ?_; rintro e w' ⟨rfl, hw'⟩; have hw2 := hw'.symm; clear hw'; subst hw2)
    go_loopg [11] L (fun g1 s11 wr => ∃ k : Nat, k ≤ L ∧ L - k ≤ g1 ∧ s11 = .int .i64 k ∧ Below w.heap.size w wr ∧ Hid (E = testsE k (q.drop k)))
    case atStart => exact ⟨0, by omega, by omega, rfl, Below.refl _ _, H0⟩
    case round =>
      obtain ⟨k, hk, hg1, rfl, hb, HE⟩ := hrel
      by_cases hlt : k < L
      · have hlt2 : (k : Int) < (L : Int) := by omega
        obtain ⟨qb, qo, rfl, q0, q1, q2⟩ := (HQ.out.below hb) k (by rw [HL.out]; exact hlt)
        have hql := World.block_lt_of_cell? _ _ q0
        have DK := DR.out k (by omega)
        have d2 := fun W => tInRange_any (tst q k) W
        generalize tst q k = te at *
        generalize tOkB te = ok at *
        obtain ⟨tt, tm, tn⟩ := te
        dsimp only at *
        have HDK : Hid _ := DK
        clear DK
        cases ok with
        | false =>
          have E2 : Hid (E = 2) := by show _ = _; rw [HE.out, HDK.out]; rfl
          go_wp2_with (go_at_call 59; refine (d2 _).mono ?_; rintro e w2 ⟨rfl, hb2⟩)
          go_ret
          exact ⟨by rw [E2.out]; rfl, hb.trans (((Below.refl _ _).alloc (Nat.le_refl _) _ |>.trans (hb2.mono (by simp))).mono hb.size)⟩
        | true =>
          by_cases hk0 : k = 0
          · subst hk0
            simp only [Nat.zero_mul, Nat.add_zero] at q0 q1 q2
            cases tn with
            | true =>
              have E2 : Hid (E = 3) := by show _ = _; rw [HE.out, HDK.out]; rfl
              go_wp2_with (go_at_call 59; refine (d2 _).mono ?_; rintro e w2 ⟨rfl, hb2⟩; simp only [World.size_alloc] at hb2; have c2 : w2.cell? ⟨wr.heap.size, 2, none⟩ = some (.bool true) := (hb2.cell (by simp)).trans (by go_simp))
              go_ret
              exact ⟨by rw [E2.out]; rfl, hb.trans (((Below.refl _ _).alloc (Nat.le_refl _) _ |>.trans (hb2.mono (by omega))).mono hb.size)⟩
            | false =>
              have E2 : Hid (E = testsE (0 + 1) (q.drop (0 + 1))) := by show _ = _; rw [HE.out, HDK.out]; rfl
              go_wp2_with (go_at_call 59; refine (d2 _).mono ?_; rintro e w2 ⟨rfl, hb2⟩; simp only [World.size_alloc] at hb2; have c2 : w2.cell? ⟨wr.heap.size, 2, none⟩ = some (.bool false) := (hb2.cell (by simp)).trans (by go_simp))
              go_roundg (L - 1)
              case measure => omega
              case rel => exact ⟨0 + 1, by omega, by omega, by go_num, hb.trans (((Below.refl _ _).alloc (Nat.le_refl _) _ |>.trans (hb2.mono (by omega))).mono hb.size), E2⟩
          · have hkb : ((k : Int) == 0) = false := beq_eq_false_iff_ne.2 (by omega)
            have E2 : Hid (E = testsE (k + 1) (q.drop (k + 1))) := by
              show _ = _
              rw [HE.out, HDK.out, decide_eq_false hk0]; rfl
            go_wp2_with (go_at_call 59; refine (d2 _).mono ?_; rintro e w2 ⟨rfl, hb2⟩)
            go_roundg (L - (k + 1))
            case measure => omega
            case rel => exact ⟨k + 1, by omega, by omega, by go_num, hb.trans (((Below.refl _ _).alloc (Nat.le_refl _) _ |>.trans (hb2.mono (by simp))).mono hb.size), E2⟩
      · have : k = L := by omega
        subst this
        have E2 : Hid (E = 0) := by show _ = _; rw [HE.out, ← HL.out]; rw [← HL.out] at DE; exact DE.out
        go_wp2
        go_ret
        exact ⟨by rw [E2.out]; rfl, hb⟩
end Go.Proofs.Ytiekhgpnmcffiab
