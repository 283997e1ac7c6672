/-
  The contracts of testIsSo, and of the closure by which isSo sifts: is a test so of a node?
-/
import Derived.Test.YtiekhgpnmcffiabJUb
import Derived.Test.YtiekhgpnmcffiabJQa
import Derived.Deep.RegionHeld3
namespace Go.Proofs.Ytiekhgpnmcffiab
open Go.RowKit

set_option maxHeartbeats 1000000 in
theorem testIsSo_any (T M : Int) (near : Bool) (x : Nd) (k : Value) (w : World) :
    Calls Try.prog 80 #[.agg #[.int .i64 T, .int .i64 M, .bool near], .agg #[.bool x.u, .int .i64 x.n, .int .i64 x.t, .int .i64 x.m, .int .i64 x.p, k, .int .i64 x.h, .bool x.c]] w fun e w' => e = .returned (.bool (testB T M x)) ∧ Below w.heap.size w w' := by
  obtain ⟨xu, xn, xt, xm, xp, xks, xh, xc⟩ := x
  unfold testB
  dsimp only
  by_cases h1 : T = -1000001
  · subst h1
    simp only [decide_true, Bool.true_or, Bool.true_and]
    by_cases h3 : M = -1000001
    · subst h3
      simp only [decide_true, Bool.true_or]
      go_enter Try.func80, Try.ntmps80
      go_wp2
      go_ret
      exact ⟨rfl, ((Below.refl _ _).alloc (Nat.le_refl _) _).alloc (by simp) _⟩
    · have e3 : (M == -1000001) = false := beq_eq_false_iff_ne.2 h3
      rw [decide_eq_false h3, Bool.false_or]
      by_cases h4 : M = xm
      · subst h4
        simp only [decide_true]
        go_enter Try.func80, Try.ntmps80
        go_wp2
        go_ret
        exact ⟨by simp, ((Below.refl _ _).alloc (Nat.le_refl _) _).alloc (by simp) _⟩
      · have e4 : (M == xm) = false := beq_eq_false_iff_ne.2 h4
        rw [decide_eq_false h4]
        go_enter Try.func80, Try.ntmps80
        go_wp2
        go_ret
        refine ⟨?_, ((Below.refl _ _).alloc (Nat.le_refl _) _).alloc (by simp) _⟩
        first
          | rfl
          | simp [e4]
  · have e1 : (T == -1000001) = false := beq_eq_false_iff_ne.2 h1
    rw [decide_eq_false h1, Bool.false_or]
    by_cases h2 : T = xt
    · subst h2
      simp only [decide_true, Bool.true_and]
      by_cases h3 : M = -1000001
      · subst h3
        simp only [decide_true, Bool.true_or]
        go_enter Try.func80, Try.ntmps80
        go_wp2
        go_ret
        exact ⟨rfl, ((Below.refl _ _).alloc (Nat.le_refl _) _).alloc (by simp) _⟩
      · have e3 : (M == -1000001) = false := beq_eq_false_iff_ne.2 h3
        rw [decide_eq_false h3, Bool.false_or]
        by_cases h4 : M = xm
        · subst h4
          simp only [decide_true]
          go_enter Try.func80, Try.ntmps80
          go_wp2
          go_ret
          exact ⟨by simp, ((Below.refl _ _).alloc (Nat.le_refl _) _).alloc (by simp) _⟩
        · have e4 : (M == xm) = false := beq_eq_false_iff_ne.2 h4
          rw [decide_eq_false h4]
          go_enter Try.func80, Try.ntmps80
          go_wp2
          go_ret
          refine ⟨?_, ((Below.refl _ _).alloc (Nat.le_refl _) _).alloc (by simp) _⟩
          first
            | rfl
            | simp [e4]
    · have e2 : (T == xt) = false := beq_eq_false_iff_ne.2 h2
      rw [decide_eq_false h2, Bool.false_and]
      go_enter Try.func80, Try.ntmps80
      go_wp2
      go_ret
      exact ⟨rfl, ((Below.refl _ _).alloc (Nat.le_refl _) _).alloc (by simp) _⟩

set_option maxHeartbeats 1000000 in
theorem sift_any (a : Option Addr) (c : Nat) (S : List Nd) (T M : Int) (near : Bool) (bt bs : Nat) (k : Nat) (w : World) (hk : k < S.length) (hS : NdsAt w a S) (ht0 : w.cell? ⟨bt, 0, none⟩ = some (.int .i64 T)) (ht1 : w.cell? ⟨bt, 1, none⟩ = some (.int .i64 M)) (ht2 : w.cell? ⟨bt, 2, none⟩ = some (.bool near)) (hs : w.cell? ⟨bs, 0, none⟩ = some (.slice a S.length c)) :
    Calls Try.prog 79 #[.int .i64 (k : Int), .pointer (some ⟨bt, 0, none⟩), .pointer (some ⟨bs, 0, none⟩)] w fun e w' => e = .returned (.bool (!testB T M (nd S k))) ∧ Below w.heap.size w w' := by
  have hk2 : (k : Int) < (S.length : Int) := by omega
  obtain ⟨b, o, rfl, c0, c1, c2, c3, c4, ⟨ka, kc, c5, _⟩, c6, c7⟩ := hS k hk
  have d1 := fun v W => testIsSo_any T M near (nd S k) v W
  clear hS
  generalize testB T M (nd S k) = r at *
  generalize nd S k = x at *
  generalize S.length = n at *
  go_enter Try.func79, Try.ntmps79
  go_wp2_with fail
  go_region_held3 (fun w'' => w''.cell? ⟨bt, 0, none⟩ = some (.int .i64 T) ∧ w''.cell? ⟨bt, 1, none⟩ = some (.int .i64 M) ∧ w''.cell? ⟨bt, 2, none⟩ = some (.bool near) ∧ w''.cell? ⟨bs, 0, none⟩ = some (.slice (some ⟨b, o, none⟩) n c) ∧ w''.cell? ⟨b, o + k * 8, none⟩ = some (.bool x.u) ∧ w''.cell? ⟨b, o + k * 8 + 1, none⟩ = some (.int .i64 x.n) ∧ w''.cell? ⟨b, o + k * 8 + 2, none⟩ = some (.int .i64 x.t) ∧ w''.cell? ⟨b, o + k * 8 + 3, none⟩ = some (.int .i64 x.m) ∧ w''.cell? ⟨b, o + k * 8 + 4, none⟩ = some (.int .i64 x.p) ∧ w''.cell? ⟨b, o + k * 8 + 5, none⟩ = some (.slice ka x.ks.length kc) ∧ w''.cell? ⟨b, o + k * 8 + 6, none⟩ = some (.int .i64 x.h) ∧ w''.cell? ⟨b, o + k * 8 + 7, none⟩ = some (.bool x.c)) (go_keep) (first | (go_at_call 80; refine (d1 _ _).mono ?_; rintro e w2 ⟨rfl, hb2⟩; have hb22 : Below w.heap.size w w2 := ((Below.refl _ _).drew).trans hb2; have m0 := (hb22.cell (World.block_lt_of_cell? _ _ ht0)).trans ht0; have m1 := (hb22.cell (World.block_lt_of_cell? _ _ ht1)).trans ht1; have m2 := (hb22.cell (World.block_lt_of_cell? _ _ ht2)).trans ht2; have m3 := (hb22.cell (World.block_lt_of_cell? _ _ hs)).trans hs; have n0 := (hb22.cell (World.block_lt_of_cell? _ _ c0)).trans c0; have n1 := (hb22.cell (World.block_lt_of_cell? _ _ c1)).trans c1; have n2 := (hb22.cell (World.block_lt_of_cell? _ _ c2)).trans c2; have n3 := (hb22.cell (World.block_lt_of_cell? _ _ c3)).trans c3; have n4 := (hb22.cell (World.block_lt_of_cell? _ _ c4)).trans c4; have n5 := (hb22.cell (World.block_lt_of_cell? _ _ c5)).trans c5; have n6 := (hb22.cell (World.block_lt_of_cell? _ _ c6)).trans c6; have n7 := (hb22.cell (World.block_lt_of_cell? _ _ c7)).trans c7; clear hb2))
  all_goals go_wp2
  all_goals go_ret
  all_goals exact ⟨rfl, hb22⟩
end Go.Proofs.Ytiekhgpnmcffiab
