/-
  Contracts of the small functions of package store: within, unused, and the test by which Make finds a place; no condition.
-/
import Derived.Test.YtefjjbbommgknaaProg
import Derived.WalkKit
import Derived.Deep.LoopGhost
import Derived.Deep.Draws
import Derived.Laws.CopyOwn
namespace Go.Proofs.Ytefjjbbommgknaa
open Go.RowKit

set_option maxHeartbeats 400000 in
theorem within_any (x a b : Int) (w : World) :
    Calls Try.prog 25 #[.int .i64 x, .int .i64 a, .int .i64 b] w fun e w' => e = .returned (.bool (decide (a ≤ x ∧ x ≤ b))) ∧ w' = w := by
  by_cases h1 : a ≤ x
  · by_cases h2 : x ≤ b
    · have h : decide (a ≤ x ∧ x ≤ b) = true := by simp [h1, h2]
      rw [h]
      clear h
      go_enter Try.func25, Try.ntmps25
      go_wp2
      go_ret
      exact ⟨rfl, rfl⟩
    · have h : decide (a ≤ x ∧ x ≤ b) = false := by simp [h2]
      rw [h]
      clear h
      go_enter Try.func25, Try.ntmps25
      go_wp2
      go_ret
      exact ⟨rfl, rfl⟩
  · have h : decide (a ≤ x ∧ x ≤ b) = false := by simp [h1]
    rw [h]
    clear h
    go_enter Try.func25, Try.ntmps25
    go_wp2
    go_ret
    exact ⟨rfl, rfl⟩

theorem within_yes (x a b : Int) (w : World) (h1 : a ≤ x) (h2 : x ≤ b) :
    Calls Try.prog 25 #[.int .i64 x, .int .i64 a, .int .i64 b] w fun e w' => e = .returned (.bool true) ∧ w' = w := by
  have h := within_any x a b w
  rwa [decide_eq_true (by exact ⟨h1, h2⟩)] at h

theorem within_no (x a b : Int) (w : World) (h1 : x < a ∨ b < x) :
    Calls Try.prog 25 #[.int .i64 x, .int .i64 a, .int .i64 b] w fun e w' => e = .returned (.bool false) ∧ w' = w := by
  have h := within_any x a b w
  rwa [decide_eq_false (by omega)] at h

set_option maxHeartbeats 400000 in
theorem unused_any (n : Int) (w : World) :
    Calls Try.prog 26 #[.int .i64 n] w fun e w' => e = .returned (.agg #[.bool false, .int .i64 n, .int .i64 0, .int .i64 0, .int .i64 (-1), .slice none 0 0, .int .i64 (-1), .bool false]) ∧ w' = w.alloc (.cells #[.bool false, .int .i64 n, .int .i64 0, .int .i64 0, .int .i64 (-1), .slice none 0 0, .int .i64 (-1), .bool false] 39) := by
  go_enter Try.func26, Try.ntmps26
  go_wp2
  exact bodyPost_ret (v := .agg #[.bool false, .int .i64 n, .int .i64 0, .int .i64 0, .int .i64 (-1), .slice none 0 0, .int .i64 (-1), .bool false]) (by simp [results, Try.results26, go_sem]) rfl ⟨rfl, rfl⟩

set_option maxHeartbeats 400000 in
theorem free_place (v0 : Bool) (n v2 v3 v4 v6 : Int) (k : Value) (v7 : Bool) (w : World) :
    Calls Try.prog 29 #[.agg #[.bool v0, .int .i64 n, .int .i64 v2, .int .i64 v3, .int .i64 v4, k, .int .i64 v6, .bool v7]] w fun e w' => e = .returned (.bool (!v0 && decide (n < 1000000))) ∧ w' = w.alloc (.cells #[.bool v0, .int .i64 n, .int .i64 v2, .int .i64 v3, .int .i64 v4, k, .int .i64 v6, .bool v7] 39) := by
  cases v0
  · by_cases h : n < 1000000
    · have hd : (!false && decide (n < 1000000)) = true := by simp [h]
      rw [hd]
      clear hd
      go_enter Try.func29, Try.ntmps29
      go_wp2
      go_ret
      exact ⟨rfl, rfl⟩
    · have hd : (!false && decide (n < 1000000)) = false := by simp [h]
      rw [hd]
      clear hd
      go_enter Try.func29, Try.ntmps29
      go_wp2
      go_ret
      exact ⟨rfl, rfl⟩
  · go_enter Try.func29, Try.ntmps29
    go_wp2
    go_ret
    exact ⟨rfl, rfl⟩

end Go.Proofs.Ytefjjbbommgknaa
