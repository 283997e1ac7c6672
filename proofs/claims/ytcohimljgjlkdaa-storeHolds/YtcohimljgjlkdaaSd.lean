/-
  Contracts of inForm and checkNode: a node by itself.
-/
import Derived.Test.YtcohimljgjlkdaaSc
namespace Go.Proofs.Ytcohimljgjlkdaa
open Go.RowKit

theorem Below.drewNs {B : Nat} {a w : World} (h : Below B a w) (q : Nat) : Below B a (w.drewN q) := ⟨h.os, h.tape, h.output, h.size, h.block⟩

set_option maxHeartbeats 4000000 in
theorem inForm_any (x : Nd) (ka : Option Addr) (kc : Nat) (w : World) (hbig : x.ks.length ≤ 9223372036854775807) (hks : IntsAt w ka x.ks) :
    Calls Try.prog 68 #[.agg #[.bool x.u, .int .i64 x.n, .int .i64 x.t, .int .i64 x.m, .int .i64 x.p, .slice ka x.ks.length kc, .int .i64 x.h, .bool x.c]] w fun e w' => e = .returned (.bool (formB x)) ∧ Below w.heap.size w w' := by
  obtain ⟨u, n, t, m, p, ks, h, c⟩ := x
  unfold formB
  dsimp only at *
  cases u
  · have hs := fun (W : World) (g1 : IntsAt W ka ks) => sameNode_unused n n t m p ks ka kc h c W rfl hbig g1
    have i1 : ∀ o1 o2 q, IntsAt (((w.alloc o1).alloc o2).drewN q) ka ks := fun o1 o2 q => hks.below (Below.drewNs (((Below.refl _ _).alloc (Nat.le_refl _) _).alloc (by simp) _) q)
    have I1 : Hid _ := i1
    clear i1 hks
    generalize hL : ks.length = L at *
    simp only [Bool.false_eq_true, if_false]
    generalize decide (t = 0 ∧ m = 0 ∧ p = -1 ∧ ks = [] ∧ h = -1 ∧ c = false) = r at *
    go_enter Try.func68, Try.ntmps68
    go_wp2_with fail
    go_region_with (first | (go_at_call 35; refine (unused_any _ _).mono ?_; rintro e w' ⟨rfl, rfl⟩) | (go_at_call 51; refine (hs _ (I1.out _ _ _)).mono ?_; rintro e w' ⟨rfl, hb⟩))
    all_goals go_wp2
    all_goals go_ret
    all_goals exact ⟨rfl, (Below.drewNs (((Below.refl _ _).alloc (Nat.le_refl _) _).alloc (by simp) _) _).trans (hb.mono (by simp [World.drewN]; omega))⟩
  · clear hks
    simp only [if_true]
    by_cases hn : n = 0
    · subst hn
      simp only [if_true]
      go_enter Try.func68, Try.ntmps68
      go_wp2
      go_ret
      exact ⟨rfl, (Below.refl _ _).alloc (Nat.le_refl _) _⟩
    · simp only [if_neg hn]
      by_cases hh : h = -1
      · subst hh
        simp only [if_true]
        go_enter Try.func68, Try.ntmps68
        go_wp2
        go_ret
        exact ⟨rfl, (Below.refl _ _).alloc (Nat.le_refl _) _⟩
      · simp only [if_neg hh]
        go_enter Try.func68, Try.ntmps68
        go_wp2
        go_ret
        exact ⟨rfl, (Below.refl _ _).alloc (Nat.le_refl _) _⟩

def nodeE (N : Int) (x : Nd) : Int := if rangeB x then (if namesB N x then (if formB x then 0 else 3) else 4) else 2

theorem node_low {w w1 : World} {u : Bool} {n t m p : Int} {k : Value} {h : Int} {c : Bool} (hb : Below (w.heap.size + 1) (w.alloc (.cells #[.bool u, .int .i64 n, .int .i64 t, .int .i64 m, .int .i64 p, k, .int .i64 h, .bool c] 38)) w1) :
    w1.cell? ⟨w.heap.size, 0, none⟩ = some (.bool u) ∧ w1.cell? ⟨w.heap.size, 1, none⟩ = some (.int .i64 n) ∧ w1.cell? ⟨w.heap.size, 2, none⟩ = some (.int .i64 t) ∧ w1.cell? ⟨w.heap.size, 3, none⟩ = some (.int .i64 m) ∧ w1.cell? ⟨w.heap.size, 4, none⟩ = some (.int .i64 p) ∧ w1.cell? ⟨w.heap.size, 5, none⟩ = some k ∧ w1.cell? ⟨w.heap.size, 6, none⟩ = some (.int .i64 h) ∧ w1.cell? ⟨w.heap.size, 7, none⟩ = some (.bool c) :=
  ⟨(hb.cell (by simp)).trans (by go_simp), (hb.cell (by simp)).trans (by go_simp), (hb.cell (by simp)).trans (by go_simp), (hb.cell (by simp)).trans (by go_simp), (hb.cell (by simp)).trans (by go_simp), (hb.cell (by simp)).trans (by go_simp), (hb.cell (by simp)).trans (by go_simp), (hb.cell (by simp)).trans (by go_simp)⟩

set_option maxHeartbeats 4000000 in
theorem checkNode_any (x : Nd) (ka : Option Addr) (kc : Nat) (N : Int) (w : World) (hN : 0 ≤ N ∧ N ≤ 24) (hbig : x.ks.length ≤ 9223372036854775807) (hks : IntsAt w ka x.ks) :
    Calls Try.prog 46 #[.agg #[.bool x.u, .int .i64 x.n, .int .i64 x.t, .int .i64 x.m, .int .i64 x.p, .slice ka x.ks.length kc, .int .i64 x.h, .bool x.c], .int .i64 N] w fun e w' => e = .returned (.int .i64 (nodeE N x)) ∧ Below w.heap.size w w' := by
  unfold nodeE
  have d1 := fun W => inRange_any x (.slice ka x.ks.length kc) W
  have d2 := fun (W : World) (g : IntsAt W ka x.ks) => namesPlaces_any x ka kc N W hN hbig g
  have d3 := fun (W : World) (g : IntsAt W ka x.ks) => inForm_any x ka kc W hbig g
  have i1 : ∀ o1 w1, Below (w.heap.size + 1) (w.alloc o1) w1 → IntsAt w1 ka x.ks := fun o1 w1 h1 => hks.below (((Below.refl _ _).alloc (Nat.le_refl _) _).trans (h1.mono (by omega)))
  have I1 : Hid _ := i1
  clear i1 hks
  generalize x.ks.length = L at *
  generalize rangeB x = b1 at *
  generalize namesB N x = b2 at *
  generalize formB x = b3 at *
  cases b1
  rotate_left
  cases b2
  rotate_left
  cases b3
  all_goals
    go_enter Try.func46, Try.ntmps46
    go_wp2_with (first
      | (go_at_call 66; refine (d1 _).mono ?_; rintro e w1 ⟨rfl, hb1⟩; simp only [World.size_alloc] at hb1; have B1 := hb1; obtain ⟨l0, l1, l2, l3, l4, l5, l6, l7⟩ := node_low hb1)
      | (go_at_call 67; refine (d2 _ (I1.out _ _ B1)).mono ?_; rintro e w2 ⟨rfl, hb2⟩; have B2 := B1.trans (hb2.mono (by have := B1.size; simp only [World.size_alloc] at this; omega)); clear l0 l1 l2 l3 l4 l5 l6 l7; obtain ⟨l0, l1, l2, l3, l4, l5, l6, l7⟩ := node_low B2)
      | (go_at_call 68; refine (d3 _ (I1.out _ _ B2)).mono ?_; rintro e w3 ⟨rfl, hb3⟩; have B3 := B2.trans (hb3.mono (by have := B2.size; simp only [World.size_alloc] at this; omega))))
  all_goals go_ret
  all_goals first
    | exact ⟨rfl, ((Below.refl _ _).alloc (Nat.le_refl _) _).trans (B3.mono (by omega))⟩
    | exact ⟨rfl, ((Below.refl _ _).alloc (Nat.le_refl _) _).trans (B2.mono (by omega))⟩
    | exact ⟨rfl, ((Below.refl _ _).alloc (Nat.le_refl _) _).trans (B1.mono (by omega))⟩
end Go.Proofs.Ytcohimljgjlkdaa
