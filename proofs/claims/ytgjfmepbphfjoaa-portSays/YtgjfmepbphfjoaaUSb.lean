/-
  Contracts of what Check asks of a node by itself.
-/
import Derived.Test.YtgjfmepbphfjoaaUSa
namespace Go.Proofs.Ytgjfmepbphfjoaa
open Go.RowKit

set_option maxHeartbeats 400000 in
theorem within_any (x a b : Int) (w : World) :
    Calls Try.prog 59 #[.int .i64 x, .int .i64 a, .int .i64 b] w fun e w' => e = .returned (.bool (decide (a ≤ x ∧ x ≤ b))) ∧ w' = w := by
  by_cases h1 : a ≤ x
  · by_cases h2 : x ≤ b
    · have h : decide (a ≤ x ∧ x ≤ b) = true := by simp [h1, h2]
      rw [h]
      clear h
      go_enter Try.func59, Try.ntmps59
      go_wp2
      go_ret
      exact ⟨rfl, rfl⟩
    · have h : decide (a ≤ x ∧ x ≤ b) = false := by simp [h2]
      rw [h]
      clear h
      go_enter Try.func59, Try.ntmps59
      go_wp2
      go_ret
      exact ⟨rfl, rfl⟩
  · have h : decide (a ≤ x ∧ x ≤ b) = false := by simp [h1]
    rw [h]
    clear h
    go_enter Try.func59, Try.ntmps59
    go_wp2
    go_ret
    exact ⟨rfl, rfl⟩

theorem within_yes (x a b : Int) (w : World) (h1 : a ≤ x) (h2 : x ≤ b) :
    Calls Try.prog 59 #[.int .i64 x, .int .i64 a, .int .i64 b] w fun e w' => e = .returned (.bool true) ∧ w' = w := by
  have h := within_any x a b w
  rwa [decide_eq_true (by exact ⟨h1, h2⟩)] at h

theorem within_no (x a b : Int) (w : World) (h1 : x < a ∨ b < x) :
    Calls Try.prog 59 #[.int .i64 x, .int .i64 a, .int .i64 b] w fun e w' => e = .returned (.bool false) ∧ w' = w := by
  have h := within_any x a b w
  rwa [decide_eq_false (by omega)] at h

/-- A number that is a place of N, or -1. -/
def okPl (N x : Int) : Bool := decide (-1 ≤ x ∧ x ≤ N - 1)

def rangeB (x : Nd) : Bool := decide (0 ≤ x.n ∧ x.n ≤ 1000000) && (decide (0 ≤ x.t ∧ x.t ≤ 99) && decide (-1000000 ≤ x.m ∧ x.m ≤ 1000000))

def namesB (N : Int) (x : Nd) : Bool := okPl N x.p && (okPl N x.h && !(x.ks.any fun k => !okPl N k))

set_option maxHeartbeats 800000 in
theorem equal_any (a a' : Option Addr) (c c' : Nat) (ks ks' : List Int) (w : World) (hbig : ks.length ≤ 9223372036854775807) (h1 : IntsAt w a ks) (h2 : IntsAt w a' ks') :
    Calls Try.prog 45 #[.slice a ks.length c, .slice a' ks'.length c'] w fun e w' => e = .returned (.bool (decide (ks = ks'))) ∧ Below w.heap.size w w' := by
  by_cases hl : ks.length = ks'.length
  · have same : (∀ i, i < ks.length → ks.getD i 0 = ks'.getD i 0) → decide (ks = ks') = true := fun H => by
      refine decide_eq_true (List.ext_getElem hl fun i hi hi' => ?_)
      have := H i hi
      rwa [getD_elem _ _ hi, getD_elem _ _ hi'] at this
    have other : ∀ i, ks.getD i 0 ≠ ks'.getD i 0 → decide (ks = ks') = false := fun i H => decide_eq_false fun e => H (by rw [e])
    rw [← hl]
    have S : Hid _ := same
    have O : Hid _ := other
    clear same other
    generalize hn : ks.length = n at *
    go_enter Try.func45, Try.ntmps45
    go_wp2
    go_loopg [13] n (fun g s13 wr => ∃ k : Nat, k ≤ n ∧ n - k ≤ g ∧ s13 = .int .i64 k ∧ Below w.heap.size w wr ∧ Hid (∀ i, i < k → ks.getD i 0 = ks'.getD i 0))
    case atStart => exact ⟨0, Nat.zero_le _, by omega, rfl, Below.refl _ _, fun i hi => by omega⟩
    case round =>
      obtain ⟨k, hk, hg, rfl, hb, A⟩ := hrel
      by_cases hlt : k < n
      · obtain ⟨b, o, rfl, g1⟩ := (h1.below hb) k (by omega)
        obtain ⟨b', o', rfl, g2⟩ := (h2.below hb) k (by omega)
        clear h1 h2
        by_cases he : ks.getD k 0 = ks'.getD k 0
        · have E : Hid (ks.getD k 0 = ks'.getD k 0) := he
          rw [← he] at g2
          clear he
          generalize ks.getD k 0 = y at g1 g2
          go_wp2_with fail
          go_region
          all_goals go_wp2
          all_goals go_roundg (n - (k + 1))
          case measure => omega
          case rel =>
            refine ⟨k + 1, by omega, by omega, by go_num, hb.drew, (show Hid _ from fun i hi => ?_)⟩
            by_cases e : i = k
            · subst e
              exact E.out
            · exact A.out i (by omega)
        · have Z := O.out k he
          generalize ks.getD k 0 = y at g1 he
          generalize ks'.getD k 0 = y' at g2 he
          go_wp2_with fail
          go_region
          all_goals go_wp2
          all_goals go_ret
          rw [Z]
          exact ⟨rfl, hb.drew⟩
      · clear h1 h2
        have : k = n := by omega
        subst this
        go_wp2
        go_ret
        rw [S.out A.out]
        exact ⟨rfl, hb⟩
  · have hd : decide (ks = ks') = false := decide_eq_false fun e => hl (by rw [e])
    have hl' : ¬ ((ks.length : Int) = (ks'.length : Int)) := by omega
    rw [hd]
    clear h1 h2 hd
    generalize ks.length = n at *
    generalize ks'.length = n' at *
    go_enter Try.func45, Try.ntmps45
    go_wp2
    go_ret
    exact ⟨rfl, Below.refl _ _⟩
end Go.Proofs.Ytgjfmepbphfjoaa
