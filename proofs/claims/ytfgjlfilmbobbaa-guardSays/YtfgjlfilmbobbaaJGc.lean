/-
  What one frame may ask of another one: May.
-/
import Derived.Test.YtfgjlfilmbobbaaJGb
namespace Go.Proofs.Ytfgjlfilmbobbaa
open Go.RowKit Go.ChangeShapes Go.WideShapes
set_option linter.unusedVariables false

set_option maxRecDepth 100000 in
theorem zeroRule (w : World) : (zeroValue 37).run Try.prog w = .ok (.agg #[.bool false, .int .i64 0, .bool false]) w := by kernel_rfl

set_option maxRecDepth 100000 in
set_option maxHeartbeats 2000000 in
theorem may_err (a : Option Addr) (c : Nat) (L : List Fr) (f t x : Int) (w : World) (hN : L.length ≤ 9223372036854775807) (hL : FrsAt w a L) (hE : heldsE L [f, t] ≠ 0) :
    Calls Try.prog 7 #[.slice a L.length c, .int .i64 f, .int .i64 t, .int .i64 x] w fun e w' => e = .returned (.int .i64 (mayE L f t x)) ∧ Below w.heap.size w w' := by
  have ix0 : ∀ w : World, (Instr.index 35 (.agg #[.int .i64 f, .int .i64 t]) (.int .i64 0)).run Try.prog w = .ok (.int .i64 f) w := fun _ => by kernel_rfl
  have ix1 : ∀ w : World, (Instr.index 35 (.agg #[.int .i64 f, .int .i64 t]) (.int .i64 1)).run Try.prog w = .ok (.int .i64 t) w := fun _ => by kernel_rfl
  have D : Hid _ := fcheck_any a c L w hN hL
  have D1 : Hid (∀ W, FrsAt W a L → _) := fun W hW => fholds_any a c L f W hN hW
  have D2 : Hid (∀ W, FrsAt W a L → _) := fun W hW => fholds_any a c L t W hN hW
  have HL : Hid (FrsAt w a L) := hL
  clear hL
  by_cases h1 : fcheckE L = 0
  · by_cases h2 : fholdsE L f = 0
    · have h3 : fholdsE L t ≠ 0 := fun h3 => hE (helds_two_of h1 h2 h3)
      rw [may_three h1 h2 h3]
      rw [h1] at D
      rw [h2] at D1
      clear h1 h2 hE
      generalize fholdsE L t = F at *
      have h3a : (F == 0) = false := by simp [h3]
      have h3b : decide (F = 0) = false := decide_eq_false h3
      generalize L.length = n at *
      go_enter Try.func7, Try.ntmps7
      go_wp2_with fail
      refine Calls.mono D.out ?_
      rintro e w1 ⟨rfl, hb1⟩
      have HB1 : Hid (Below w.heap.size w w1) := hb1
      clear hb1
      go_wp2_with fail
      go_loopg [23] 2 (fun g s23 wr => ∃ k : Nat, k ≤ 1 ∧ 2 - k ≤ g ∧ s23 = .int .i64 k ∧ wr = w1)
      case atStart => exact ⟨0, by omega, by omega, rfl, rfl⟩
      case round =>
        obtain ⟨k, hk, hg, rfl, hwr⟩ := hrel
        have hwr2 := hwr.symm
        clear hwr
        subst hwr2
        obtain rfl | rfl : k = 0 ∨ k = 1 := by omega
        · go_wp2_with fail
          refine Calls.mono (D1.out _ (HL.out.below HB1.out)) ?_
          rintro e w2 ⟨rfl, hw2⟩
          subst hw2
          go_wp2_with fail
          go_roundg 1
          case measure => omega
          case rel => exact ⟨1, by omega, by omega, by go_num, rfl⟩
        · go_wp2_with fail
          refine Calls.mono (D2.out _ (HL.out.below HB1.out)) ?_
          rintro e w2 ⟨rfl, hw2⟩
          subst hw2
          go_wp2_with fail
          go_ret
          exact ⟨rfl, HB1.out⟩
    · rw [may_two h1 h2]
      rw [h1] at D
      clear h1 hE
      generalize fholdsE L f = F at *
      have h3a : (F == 0) = false := by simp [h2]
      have h3b : decide (F = 0) = false := decide_eq_false h2
      generalize L.length = n at *
      go_enter Try.func7, Try.ntmps7
      go_wp2_with fail
      refine Calls.mono D.out ?_
      rintro e w1 ⟨rfl, hb1⟩
      have HB1 : Hid (Below w.heap.size w w1) := hb1
      clear hb1
      go_wp2_with fail
      go_loopg [23] 2 (fun g s23 wr => ∃ k : Nat, k ≤ 0 ∧ 2 - k ≤ g ∧ s23 = .int .i64 k ∧ wr = w1)
      case atStart => exact ⟨0, by omega, by omega, rfl, rfl⟩
      case round =>
        obtain ⟨k, hk, hg, rfl, hwr⟩ := hrel
        have hwr2 := hwr.symm
        clear hwr
        subst hwr2
        obtain rfl : k = 0 := by omega
        go_wp2_with fail
        refine Calls.mono (D1.out _ (HL.out.below HB1.out)) ?_
        rintro e w2 ⟨rfl, hw2⟩
        subst hw2
        go_wp2_with fail
        go_ret
        exact ⟨rfl, HB1.out⟩
  · rw [may_one h1]
    clear hE
    generalize fcheckE L = F at *
    have h3a : (F == 0) = false := by simp [h1]
    have h3b : decide (F = 0) = false := decide_eq_false h1
    generalize L.length = n at *
    go_enter Try.func7, Try.ntmps7
    go_wp2_with fail
    refine Calls.mono D.out ?_
    rintro e w1 ⟨rfl, hb1⟩
    have HB1 : Hid (Below w.heap.size w w1) := hb1
    clear hb1
    go_wp2_with fail
    go_ret
    exact ⟨rfl, HB1.out⟩

set_option maxRecDepth 100000 in
set_option maxHeartbeats 2000000 in
theorem may_ok (a : Option Addr) (c : Nat) (L : List Fr) (f t x : Int) (w : World) (hx : (Lit.int .i64 x).wf = true) (hN : L.length ≤ 9223372036854775807) (hL : FrsAt w a L) (hE : heldsE L [f, t] = 0) :
    Calls Try.prog 7 #[.slice a L.length c, .int .i64 f, .int .i64 t, .int .i64 x] w fun e w' => e = .returned (.int .i64 (mayE L f t x)) ∧ Below w.heap.size w w' := by
  obtain ⟨h1, h2, h3⟩ := helds_two_zero hE
  have R := fcheck_zero.1 h1
  rw [may_four h1 h2 h3]
  obtain ⟨p, rfl, hp, _⟩ := holds_zero h2
  obtain ⟨q, rfl, hq, _⟩ := holds_zero h3
  have ix0 : ∀ w : World, (Instr.index 35 (.agg #[.int .i64 (p : Int), .int .i64 (q : Int)]) (.int .i64 0)).run Try.prog w = .ok (.int .i64 (p : Int)) w := fun _ => by kernel_rfl
  have ix1 : ∀ w : World, (Instr.index 35 (.agg #[.int .i64 (p : Int), .int .i64 (q : Int)]) (.int .i64 1)).run Try.prog w = .ok (.int .i64 (q : Int)) w := fun _ => by kernel_rfl
  have D : Hid _ := fcheck_any a c L w hN hL
  have D1 : Hid (∀ W, FrsAt W a L → _) := fun W hW => fholds_any a c L p W hN hW
  have D2 : Hid (∀ W, FrsAt W a L → _) := fun W hW => fholds_any a c L q W hN hW
  have D4 : Hid (∀ al nd be W, FrsAt W a L → _) := fun al nd be W hW => lets_any a c L p q al nd be W (by have := R.few; omega) hW hp hq
  have HL : Hid (FrsAt w a L) := hL
  rw [h1] at D
  rw [h2] at D1
  rw [h3] at D2
  have LA : Hid (∀ al nd be, ruleOf x = some (al, nd, be) → letsF L p q al nd be = askF L p q x) := fun al nd be h => lets_ask R hp h
  clear hL h1 h2 h3 hE
  have FEW := R.few
  generalize askF L p q x = A at *
  obtain ⟨n, hn⟩ : ∃ n, L.length = n := ⟨_, rfl⟩
  rw [hn] at D D1 D2 D4 hp hq hN FEW ⊢
  clear hn
  by_cases hr : 1 ≤ x ∧ x ≤ 5
  · rw [if_neg (not_not_intro hr)]
    obtain ⟨⟨al, nd, be⟩, hro⟩ : ∃ r, ruleOf x = some r := by
      cases h : ruleOf x with
      | none => exact absurd hr (rule_none.1 h)
      | some r => exact ⟨r, rfl⟩
    have D5 : Hid (∀ W, FrsAt W a L → _) := fun W hW => D4.out al nd be W hW
    rw [LA.out al nd be hro] at D5
    have HR : Hid (ruleN 5 (.int .i64 x) = some (rv (al, nd, be))) := (by rw [ruleN_int, if_pos hr.2, hro]; rfl : ruleN 5 (.int .i64 x) = some (rv (al, nd, be)))
    clear D4 LA hro hr
    cases A
    all_goals
      simp only [if_true, if_false, Bool.false_eq_true]
      go_enter Try.func7, Try.ntmps7
      go_wp2_with fail
      refine Calls.mono D.out ?_
      rintro e w1 ⟨rfl, hb1⟩
      have HB1 : Hid (Below w.heap.size w w1) := hb1
      clear hb1
      go_wp2_with fail
      go_loopg [23] 2 (fun g s23 wr => ∃ k : Nat, k ≤ 2 ∧ 2 - k ≤ g ∧ s23 = .int .i64 k ∧ wr = w1)
      case atStart => exact ⟨0, by omega, by omega, rfl, rfl⟩
      case round =>
        obtain ⟨k, hk, hg, rfl, hwr⟩ := hrel
        have hwr2 := hwr.symm
        clear hwr
        subst hwr2
        obtain rfl | rfl | rfl : k = 0 ∨ k = 1 ∨ k = 2 := by omega
        · go_wp2_with fail
          refine Calls.mono (D1.out _ (HL.out.below HB1.out)) ?_
          rintro e w2 ⟨rfl, hw2⟩
          subst hw2
          go_wp2_with fail
          go_roundg 1
          case measure => omega
          case rel => exact ⟨1, by omega, by omega, by go_num, rfl⟩
        · go_wp2_with fail
          refine Calls.mono (D2.out _ (HL.out.below HB1.out)) ?_
          rintro e w2 ⟨rfl, hw2⟩
          subst hw2
          go_wp2_with fail
          go_roundg 0
          case measure => omega
          case rel => exact ⟨2, by omega, by omega, by go_num, rfl⟩
        · go_wp2_with fail
          refine Calls.mono (rules_any _) ?_
          rintro e w2 ⟨b, rfl, hm, hb2⟩
          have hlook := hm.look_ok (Maps.int_keyed Try.underlying3) (t := 39) Try.underlying39 (zeroRule w2) (intKeyG hx) trivial
          rw [HR.out] at hlook
          dsimp only [Option.getD, Option.isSome, rv] at hlook
          have HB2 : Hid (Below w.heap.size w w2) := HB1.out.trans (hb2.mono HB1.out.size)
          clear hm hb2
          go_wp2_with fail
          have hb3 : ∀ o : Obj, Below w.heap.size w (w2.alloc o) := fun o => HB2.out.alloc HB2.out.size o
          refine Calls.mono (D5.out _ (HL.out.below (hb3 _))) ?_
          rintro e w3 ⟨rfl, hb4⟩
          have HB3 : Hid (Below w.heap.size w w3) := (hb3 _).trans (hb4.mono (hb3 _).size)
          clear hb3 hb4
          go_wp2_with fail
          go_ret
          exact ⟨rfl, HB3.out⟩
  · rw [if_pos hr]
    have HR : Hid (ruleN 5 (.int .i64 x) = none) := (by rw [ruleN_int, rule_none.2 hr]; split <;> rfl : ruleN 5 (.int .i64 x) = none)
    clear D4 LA hr
    go_enter Try.func7, Try.ntmps7
    go_wp2_with fail
    refine Calls.mono D.out ?_
    rintro e w1 ⟨rfl, hb1⟩
    have HB1 : Hid (Below w.heap.size w w1) := hb1
    clear hb1
    go_wp2_with fail
    go_loopg [23] 2 (fun g s23 wr => ∃ k : Nat, k ≤ 2 ∧ 2 - k ≤ g ∧ s23 = .int .i64 k ∧ wr = w1)
    case atStart => exact ⟨0, by omega, by omega, rfl, rfl⟩
    case round =>
      obtain ⟨k, hk, hg, rfl, hwr⟩ := hrel
      have hwr2 := hwr.symm
      clear hwr
      subst hwr2
      obtain rfl | rfl | rfl : k = 0 ∨ k = 1 ∨ k = 2 := by omega
      · go_wp2_with fail
        refine Calls.mono (D1.out _ (HL.out.below HB1.out)) ?_
        rintro e w2 ⟨rfl, hw2⟩
        subst hw2
        go_wp2_with fail
        go_roundg 1
        case measure => omega
        case rel => exact ⟨1, by omega, by omega, by go_num, rfl⟩
      · go_wp2_with fail
        refine Calls.mono (D2.out _ (HL.out.below HB1.out)) ?_
        rintro e w2 ⟨rfl, hw2⟩
        subst hw2
        go_wp2_with fail
        go_roundg 0
        case measure => omega
        case rel => exact ⟨2, by omega, by omega, by go_num, rfl⟩
      · go_wp2_with fail
        refine Calls.mono (rules_any _) ?_
        rintro e w2 ⟨b, rfl, hm, hb2⟩
        have hlook := hm.look_ok (Maps.int_keyed Try.underlying3) (t := 39) Try.underlying39 (zeroRule w2) (intKeyG hx) trivial
        rw [HR.out] at hlook
        dsimp only [Option.getD, Option.isSome] at hlook
        have HB2 : Hid (Below w.heap.size w w2) := HB1.out.trans (hb2.mono HB1.out.size)
        clear hm hb2
        go_wp2_with fail
        go_ret
        exact ⟨rfl, HB2.out.alloc HB2.out.size _⟩

/-- What May answers. -/
theorem may_any (a : Option Addr) (c : Nat) (L : List Fr) (f t x : Int) (w : World) (hx : (Lit.int .i64 x).wf = true) (hN : L.length ≤ 9223372036854775807) (hL : FrsAt w a L) :
    Calls Try.prog 7 #[.slice a L.length c, .int .i64 f, .int .i64 t, .int .i64 x] w fun e w' => e = .returned (.int .i64 (mayE L f t x)) ∧ Below w.heap.size w w' := by
  by_cases h : heldsE L [f, t] = 0
  · exact may_ok a c L f t x w hx hN hL h
  · exact may_err a c L f t x w hN hL h
end Go.Proofs.Ytfgjlfilmbobbaa
