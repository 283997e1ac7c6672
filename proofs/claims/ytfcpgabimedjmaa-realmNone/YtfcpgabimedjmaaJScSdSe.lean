/-
  Contracts of sameNode, inForm and checkNode: a node by itself.
-/
import Derived.Test.YtfcpgabimedjmaaJSaSb
namespace Go.Proofs.Ytfcpgabimedjmaa
open Go.RowKit

theorem same_low {w w1 : World} {u u' : Bool} {n n' t t' m m' p p' : Int} {k k' : Value} {h h' : Int} {c c' : Bool} (hb : Below (w.heap.size + 1 + 1) ((w.alloc (.cells #[.bool u, .int .i64 n, .int .i64 t, .int .i64 m, .int .i64 p, k, .int .i64 h, .bool c] 47)).alloc (.cells #[.bool u', .int .i64 n', .int .i64 t', .int .i64 m', .int .i64 p', k', .int .i64 h', .bool c'] 47)) w1) :
    w1.cell? ⟨w.heap.size, 6, none⟩ = some (.int .i64 h) ∧ w1.cell? ⟨w.heap.size, 7, none⟩ = some (.bool c) ∧ w1.cell? ⟨w.heap.size + 1, 6, none⟩ = some (.int .i64 h') ∧ w1.cell? ⟨w.heap.size + 1, 7, none⟩ = some (.bool c') :=
  ⟨(hb.cell (by simp; omega)).trans (by go_simp), (hb.cell (by simp; omega)).trans (by go_simp), (hb.cell (by simp)).trans (by go_simp), (hb.cell (by simp)).trans (by go_simp)⟩

set_option maxHeartbeats 4000000 in
theorem sameNode_any (u u' : Bool) (n n' t t' m m' p p' : Int) (ks ks' : List Int) (ka ka' : Option Addr) (kc kc' : Nat) (h h' : Int) (c c' : Bool) (w : World) (hbig : ks.length ≤ 9223372036854775807) (h1 : IntsAt w ka ks) (h2 : IntsAt w ka' ks') :
    Calls Try.prog 64 #[.agg #[.bool u, .int .i64 n, .int .i64 t, .int .i64 m, .int .i64 p, .slice ka ks.length kc, .int .i64 h, .bool c], .agg #[.bool u', .int .i64 n', .int .i64 t', .int .i64 m', .int .i64 p', .slice ka' ks'.length kc', .int .i64 h', .bool c']] w fun e w' => e = .returned (.bool (decide (u = u' ∧ n = n' ∧ t = t' ∧ m = m' ∧ p = p' ∧ ks = ks' ∧ h = h' ∧ c = c'))) ∧ Below w.heap.size w w' := by
  have hk := fun (W : World) (g1 : IntsAt W ka ks) (g2 : IntsAt W ka' ks') => equal_any ka ka' kc kc' ks ks' W hbig g1 g2
  have i1 : ∀ o1 o2, IntsAt ((w.alloc o1).alloc o2) ka ks := fun o1 o2 => h1.below (((Below.refl _ _).alloc (Nat.le_refl _) _).alloc (by simp) _)
  have i2 : ∀ o1 o2, IntsAt ((w.alloc o1).alloc o2) ka' ks' := fun o1 o2 => h2.below (((Below.refl _ _).alloc (Nat.le_refl _) _).alloc (by simp) _)
  have I1 : Hid _ := i1
  have I2 : Hid _ := i2
  clear i1 i2 h1 h2
  by_cases Eu : u = u'
  · subst Eu
    by_cases En : n = n'
    · subst En
      by_cases Et : t = t'
      · subst Et
        by_cases Em : m = m'
        · subst Em
          by_cases Ep : p = p'
          · subst Ep
            by_cases EK : ks = ks'
            · have ED : decide (ks = ks') = true := decide_eq_true EK
              rw [ED] at hk
              clear ED
              by_cases Eh : h = h'
              · subst Eh
                by_cases Ec : c = c'
                · subst Ec
                  have hs : decide (u = u ∧ n = n ∧ t = t ∧ m = m ∧ p = p ∧ ks = ks' ∧ h = h ∧ c = c) = true := by simp [EK]
                  rw [hs]
                  clear hs EK
                  go_enter Try.func64, Try.ntmps64
                  go_wp2_with (go_at_call 82; refine (hk _ (I1.out _ _) (I2.out _ _)).mono ?_; rintro e w' ⟨rfl, hb⟩; simp only [World.size_alloc] at hb; obtain ⟨l1, l2, l3, l4⟩ := same_low hb)
                  go_ret
                  first
                    | exact ⟨rfl, ((Below.refl _ _).alloc (Nat.le_refl _) _).alloc (by simp) _⟩
                    | exact ⟨rfl, (((Below.refl _ _).alloc (Nat.le_refl _) _).alloc (by simp) _).trans (hb.mono (by omega))⟩
                · have hs : decide (u = u ∧ n = n ∧ t = t ∧ m = m ∧ p = p ∧ ks = ks' ∧ h = h ∧ c = c') = false := by simp [Ec]
                  rw [hs]
                  clear hs EK
                  cases c <;> cases c' <;> first | exact absurd rfl Ec | skip
                  all_goals
                    go_enter Try.func64, Try.ntmps64
                    go_wp2_with (go_at_call 82; refine (hk _ (I1.out _ _) (I2.out _ _)).mono ?_; rintro e w' ⟨rfl, hb⟩; simp only [World.size_alloc] at hb; obtain ⟨l1, l2, l3, l4⟩ := same_low hb)
                    go_ret
                    first
                      | exact ⟨rfl, ((Below.refl _ _).alloc (Nat.le_refl _) _).alloc (by simp) _⟩
                      | exact ⟨rfl, (((Below.refl _ _).alloc (Nat.le_refl _) _).alloc (by simp) _).trans (hb.mono (by omega))⟩
              · have hs : decide (u = u ∧ n = n ∧ t = t ∧ m = m ∧ p = p ∧ ks = ks' ∧ h = h' ∧ c = c') = false := by simp [Eh]
                rw [hs]
                clear hs EK
                go_enter Try.func64, Try.ntmps64
                go_wp2_with (go_at_call 82; refine (hk _ (I1.out _ _) (I2.out _ _)).mono ?_; rintro e w' ⟨rfl, hb⟩; simp only [World.size_alloc] at hb; obtain ⟨l1, l2, l3, l4⟩ := same_low hb)
                go_ret
                first
                  | exact ⟨rfl, ((Below.refl _ _).alloc (Nat.le_refl _) _).alloc (by simp) _⟩
                  | exact ⟨rfl, (((Below.refl _ _).alloc (Nat.le_refl _) _).alloc (by simp) _).trans (hb.mono (by omega))⟩
            · have ED : decide (ks = ks') = false := decide_eq_false EK
              rw [ED] at hk
              have hs : decide (u = u ∧ n = n ∧ t = t ∧ m = m ∧ p = p ∧ ks = ks' ∧ h = h' ∧ c = c') = false := by simp [EK]
              rw [hs]
              clear hs EK ED
              go_enter Try.func64, Try.ntmps64
              go_wp2_with (go_at_call 82; refine (hk _ (I1.out _ _) (I2.out _ _)).mono ?_; rintro e w' ⟨rfl, hb⟩; simp only [World.size_alloc] at hb; obtain ⟨l1, l2, l3, l4⟩ := same_low hb)
              go_ret
              first
                | exact ⟨rfl, ((Below.refl _ _).alloc (Nat.le_refl _) _).alloc (by simp) _⟩
                | exact ⟨rfl, (((Below.refl _ _).alloc (Nat.le_refl _) _).alloc (by simp) _).trans (hb.mono (by omega))⟩
          · have hs : decide (u = u ∧ n = n ∧ t = t ∧ m = m ∧ p = p' ∧ ks = ks' ∧ h = h' ∧ c = c') = false := by simp [Ep]
            rw [hs]
            clear hs
            go_enter Try.func64, Try.ntmps64
            go_wp2_with (go_at_call 82; refine (hk _ (I1.out _ _) (I2.out _ _)).mono ?_; rintro e w' ⟨rfl, hb⟩; simp only [World.size_alloc] at hb; obtain ⟨l1, l2, l3, l4⟩ := same_low hb)
            go_ret
            first
              | exact ⟨rfl, ((Below.refl _ _).alloc (Nat.le_refl _) _).alloc (by simp) _⟩
              | exact ⟨rfl, (((Below.refl _ _).alloc (Nat.le_refl _) _).alloc (by simp) _).trans (hb.mono (by omega))⟩
        · have hs : decide (u = u ∧ n = n ∧ t = t ∧ m = m' ∧ p = p' ∧ ks = ks' ∧ h = h' ∧ c = c') = false := by simp [Em]
          rw [hs]
          clear hs
          go_enter Try.func64, Try.ntmps64
          go_wp2_with (go_at_call 82; refine (hk _ (I1.out _ _) (I2.out _ _)).mono ?_; rintro e w' ⟨rfl, hb⟩; simp only [World.size_alloc] at hb; obtain ⟨l1, l2, l3, l4⟩ := same_low hb)
          go_ret
          first
            | exact ⟨rfl, ((Below.refl _ _).alloc (Nat.le_refl _) _).alloc (by simp) _⟩
            | exact ⟨rfl, (((Below.refl _ _).alloc (Nat.le_refl _) _).alloc (by simp) _).trans (hb.mono (by omega))⟩
      · have hs : decide (u = u ∧ n = n ∧ t = t' ∧ m = m' ∧ p = p' ∧ ks = ks' ∧ h = h' ∧ c = c') = false := by simp [Et]
        rw [hs]
        clear hs
        go_enter Try.func64, Try.ntmps64
        go_wp2_with (go_at_call 82; refine (hk _ (I1.out _ _) (I2.out _ _)).mono ?_; rintro e w' ⟨rfl, hb⟩; simp only [World.size_alloc] at hb; obtain ⟨l1, l2, l3, l4⟩ := same_low hb)
        go_ret
        first
          | exact ⟨rfl, ((Below.refl _ _).alloc (Nat.le_refl _) _).alloc (by simp) _⟩
          | exact ⟨rfl, (((Below.refl _ _).alloc (Nat.le_refl _) _).alloc (by simp) _).trans (hb.mono (by omega))⟩
    · have hs : decide (u = u ∧ n = n' ∧ t = t' ∧ m = m' ∧ p = p' ∧ ks = ks' ∧ h = h' ∧ c = c') = false := by simp [En]
      rw [hs]
      clear hs
      go_enter Try.func64, Try.ntmps64
      go_wp2_with (go_at_call 82; refine (hk _ (I1.out _ _) (I2.out _ _)).mono ?_; rintro e w' ⟨rfl, hb⟩; simp only [World.size_alloc] at hb; obtain ⟨l1, l2, l3, l4⟩ := same_low hb)
      go_ret
      first
        | exact ⟨rfl, ((Below.refl _ _).alloc (Nat.le_refl _) _).alloc (by simp) _⟩
        | exact ⟨rfl, (((Below.refl _ _).alloc (Nat.le_refl _) _).alloc (by simp) _).trans (hb.mono (by omega))⟩
  · have hs : decide (u = u' ∧ n = n' ∧ t = t' ∧ m = m' ∧ p = p' ∧ ks = ks' ∧ h = h' ∧ c = c') = false := by simp [Eu]
    rw [hs]
    clear hs
    cases u <;> cases u' <;> first | exact absurd rfl Eu | skip
    all_goals
      go_enter Try.func64, Try.ntmps64
      go_wp2_with (go_at_call 82; refine (hk _ (I1.out _ _) (I2.out _ _)).mono ?_; rintro e w' ⟨rfl, hb⟩; simp only [World.size_alloc] at hb; obtain ⟨l1, l2, l3, l4⟩ := same_low hb)
      go_ret
      first
        | exact ⟨rfl, ((Below.refl _ _).alloc (Nat.le_refl _) _).alloc (by simp) _⟩
        | exact ⟨rfl, (((Below.refl _ _).alloc (Nat.le_refl _) _).alloc (by simp) _).trans (hb.mono (by omega))⟩

def formB (x : Nd) : Bool := if x.u then (if x.n = 0 then false else if x.h = -1 then !x.c else decide (x.p = -1)) else decide (x.t = 0 ∧ x.m = 0 ∧ x.p = -1 ∧ x.ks = [] ∧ x.h = -1 ∧ x.c = false)

theorem ints_nil (w : World) (a : Option Addr) : IntsAt w a [] := fun _ hi => absurd hi (Nat.not_lt_zero _)

theorem sameNode_unused (n n' t m p : Int) (ks : List Int) (ka : Option Addr) (kc : Nat) (h : Int) (c : Bool) (w : World) (hn : n' = n) (hbig : ks.length ≤ 9223372036854775807) (h1 : IntsAt w ka ks) :
    Calls Try.prog 64 #[.agg #[.bool false, .int .i64 n, .int .i64 t, .int .i64 m, .int .i64 p, .slice ka ks.length kc, .int .i64 h, .bool c], .agg #[.bool false, .int .i64 n', .int .i64 0, .int .i64 0, .int .i64 (-1), .slice none 0 0, .int .i64 (-1), .bool false]] w fun e w' => e = .returned (.bool (decide (t = 0 ∧ m = 0 ∧ p = -1 ∧ ks = [] ∧ h = -1 ∧ c = false))) ∧ Below w.heap.size w w' := by
  subst hn
  have H := sameNode_any false false n' n' t 0 m 0 p (-1) ks [] ka none kc 0 h (-1) c false w hbig h1 (ints_nil _ _)
  have e : decide (false = false ∧ n' = n' ∧ t = 0 ∧ m = 0 ∧ p = -1 ∧ ks = [] ∧ h = -1 ∧ c = false) = decide (t = 0 ∧ m = 0 ∧ p = -1 ∧ ks = [] ∧ h = -1 ∧ c = false) := by
    congr 1; simp
  rw [e] at H
  exact H
end Go.Proofs.Ytfcpgabimedjmaa

namespace Go.Proofs.Ytfcpgabimedjmaa
open Go.RowKit

theorem Below.drewNs {B : Nat} {a w : World} (h : Below B a w) (q : Nat) : Below B a (w.drewN q) := ⟨h.os, h.tape, h.output, h.size, h.block⟩

set_option maxHeartbeats 4000000 in
theorem inForm_any (x : Nd) (ka : Option Addr) (kc : Nat) (w : World) (hbig : x.ks.length ≤ 9223372036854775807) (hks : IntsAt w ka x.ks) :
    Calls Try.prog 46 #[.agg #[.bool x.u, .int .i64 x.n, .int .i64 x.t, .int .i64 x.m, .int .i64 x.p, .slice ka x.ks.length kc, .int .i64 x.h, .bool x.c]] w fun e w' => e = .returned (.bool (formB x)) ∧ Below w.heap.size w w' := by
  obtain ⟨u, n, t, m, p, ks, h, c⟩ := x
  unfold formB
  dsimp only at *
  cases u
  · have hs := fun (W : World) (g1 : IntsAt W ka ks) => sameNode_unused n n t m p ks ka kc h c W rfl hbig g1
    have i1 : ∀ o1 o2 q, IntsAt (((w.alloc o1).alloc o2).drewN q) ka ks := fun o1 o2 q => hks.below (Below.drewNs (((Below.refl _ _).alloc (Nat.le_refl _) _).alloc (by simp) _) q)
    have I1 : Hid _ := i1
    clear i1 hks
    generalize hL : ks.length = L at *
    simp only [Bool.false_eq_true, if_false]
    generalize decide (t = 0 ∧ m = 0 ∧ p = -1 ∧ ks = [] ∧ h = -1 ∧ c = false) = r at *
    go_enter Try.func46, Try.ntmps46
    go_wp2_with fail
    go_region_with (first | (go_at_call 43; refine (unused_any _ _).mono ?_; rintro e w' ⟨rfl, rfl⟩) | (go_at_call 64; refine (hs _ (I1.out _ _ _)).mono ?_; rintro e w' ⟨rfl, hb⟩))
    all_goals go_wp2
    all_goals go_ret
    all_goals exact ⟨rfl, (Below.drewNs (((Below.refl _ _).alloc (Nat.le_refl _) _).alloc (by simp) _) _).trans (hb.mono (by simp [World.drewN]; omega))⟩
  · clear hks
    simp only [if_true]
    by_cases hn : n = 0
    · subst hn
      simp only [if_true]
      go_enter Try.func46, Try.ntmps46
      go_wp2
      go_ret
      exact ⟨rfl, (Below.refl _ _).alloc (Nat.le_refl _) _⟩
    · simp only [if_neg hn]
      by_cases hh : h = -1
      · subst hh
        simp only [if_true]
        go_enter Try.func46, Try.ntmps46
        go_wp2
        go_ret
        exact ⟨rfl, (Below.refl _ _).alloc (Nat.le_refl _) _⟩
      · simp only [if_neg hh]
        go_enter Try.func46, Try.ntmps46
        go_wp2
        go_ret
        exact ⟨rfl, (Below.refl _ _).alloc (Nat.le_refl _) _⟩

def nodeE (N : Int) (x : Nd) : Int := if rangeB x then (if namesB N x then (if formB x then 0 else 3) else 4) else 2

theorem node_low {w w1 : World} {u : Bool} {n t m p : Int} {k : Value} {h : Int} {c : Bool} (hb : Below (w.heap.size + 1) (w.alloc (.cells #[.bool u, .int .i64 n, .int .i64 t, .int .i64 m, .int .i64 p, k, .int .i64 h, .bool c] 47)) w1) :
    w1.cell? ⟨w.heap.size, 0, none⟩ = some (.bool u) ∧ w1.cell? ⟨w.heap.size, 1, none⟩ = some (.int .i64 n) ∧ w1.cell? ⟨w.heap.size, 2, none⟩ = some (.int .i64 t) ∧ w1.cell? ⟨w.heap.size, 3, none⟩ = some (.int .i64 m) ∧ w1.cell? ⟨w.heap.size, 4, none⟩ = some (.int .i64 p) ∧ w1.cell? ⟨w.heap.size, 5, none⟩ = some k ∧ w1.cell? ⟨w.heap.size, 6, none⟩ = some (.int .i64 h) ∧ w1.cell? ⟨w.heap.size, 7, none⟩ = some (.bool c) :=
  ⟨(hb.cell (by simp)).trans (by go_simp), (hb.cell (by simp)).trans (by go_simp), (hb.cell (by simp)).trans (by go_simp), (hb.cell (by simp)).trans (by go_simp), (hb.cell (by simp)).trans (by go_simp), (hb.cell (by simp)).trans (by go_simp), (hb.cell (by simp)).trans (by go_simp), (hb.cell (by simp)).trans (by go_simp)⟩

set_option maxHeartbeats 4000000 in
theorem checkNode_any (x : Nd) (ka : Option Addr) (kc : Nat) (N : Int) (w : World) (hN : 0 ≤ N ∧ N ≤ 24) (hbig : x.ks.length ≤ 9223372036854775807) (hks : IntsAt w ka x.ks) :
    Calls Try.prog 18 #[.agg #[.bool x.u, .int .i64 x.n, .int .i64 x.t, .int .i64 x.m, .int .i64 x.p, .slice ka x.ks.length kc, .int .i64 x.h, .bool x.c], .int .i64 N] w fun e w' => e = .returned (.int .i64 (nodeE N x)) ∧ Below w.heap.size w w' := by
  unfold nodeE
  have d1 := fun W => inRange_any x (.slice ka x.ks.length kc) W
  have d2 := fun (W : World) (g : IntsAt W ka x.ks) => namesPlaces_any x ka kc N W hN hbig g
  have d3 := fun (W : World) (g : IntsAt W ka x.ks) => inForm_any x ka kc W hbig g
  have i1 : ∀ o1 w1, Below (w.heap.size + 1) (w.alloc o1) w1 → IntsAt w1 ka x.ks := fun o1 w1 h1 => hks.below (((Below.refl _ _).alloc (Nat.le_refl _) _).trans (h1.mono (by omega)))
  have I1 : Hid _ := i1
  clear i1 hks
  generalize x.ks.length = L at *
  generalize rangeB x = b1 at *
  generalize namesB N x = b2 at *
  generalize formB x = b3 at *
  cases b1
  rotate_left
  cases b2
  rotate_left
  cases b3
  all_goals
    go_enter Try.func18, Try.ntmps18
    go_wp2_with (first
      | (go_at_call 44; refine (d1 _).mono ?_; rintro e w1 ⟨rfl, hb1⟩; simp only [World.size_alloc] at hb1; have B1 := hb1; obtain ⟨l0, l1, l2, l3, l4, l5, l6, l7⟩ := node_low hb1)
      | (go_at_call 45; refine (d2 _ (I1.out _ _ B1)).mono ?_; rintro e w2 ⟨rfl, hb2⟩; have B2 := B1.trans (hb2.mono (by have := B1.size; simp only [World.size_alloc] at this; omega)); clear l0 l1 l2 l3 l4 l5 l6 l7; obtain ⟨l0, l1, l2, l3, l4, l5, l6, l7⟩ := node_low B2)
      | (go_at_call 46; refine (d3 _ (I1.out _ _ B2)).mono ?_; rintro e w3 ⟨rfl, hb3⟩; have B3 := B2.trans (hb3.mono (by have := B2.size; simp only [World.size_alloc] at this; omega))))
  all_goals go_ret
  all_goals first
    | exact ⟨rfl, ((Below.refl _ _).alloc (Nat.le_refl _) _).trans (B3.mono (by omega))⟩
    | exact ⟨rfl, ((Below.refl _ _).alloc (Nat.le_refl _) _).trans (B2.mono (by omega))⟩
    | exact ⟨rfl, ((Below.refl _ _).alloc (Nat.le_refl _) _).trans (B1.mono (by omega))⟩
end Go.Proofs.Ytfcpgabimedjmaa

namespace Go.Proofs.Ytfcpgabimedjmaa
open Go.RowKit

def nd (S : List Nd) (i : Nat) : Nd := S.getD i zeroNd

def NdAt (w : World) (b o : Nat) (x : Nd) : Prop :=
  w.cell? ⟨b, o, none⟩ = some (.bool x.u) ∧ w.cell? ⟨b, o + 1, none⟩ = some (.int .i64 x.n) ∧ w.cell? ⟨b, o + 2, none⟩ = some (.int .i64 x.t) ∧ w.cell? ⟨b, o + 3, none⟩ = some (.int .i64 x.m) ∧
  w.cell? ⟨b, o + 4, none⟩ = some (.int .i64 x.p) ∧ (∃ ka kc, w.cell? ⟨b, o + 5, none⟩ = some (.slice ka x.ks.length kc) ∧ IntsAt w ka x.ks) ∧ w.cell? ⟨b, o + 6, none⟩ = some (.int .i64 x.h) ∧ w.cell? ⟨b, o + 7, none⟩ = some (.bool x.c)

theorem NdAt.below {w w' : World} {b o : Nat} {x : Nd} (h : NdAt w b o x) (hb : Below w.heap.size w w') : NdAt w' b o x := by
  obtain ⟨c0, c1, c2, c3, c4, ⟨ka, kc, c5, hk⟩, c6, c7⟩ := h
  have hlt : b < w.heap.size := World.block_lt_of_cell? w ⟨b, o, none⟩ c0
  exact ⟨(hb.cell hlt).trans c0, (hb.cell hlt).trans c1, (hb.cell hlt).trans c2, (hb.cell hlt).trans c3, (hb.cell hlt).trans c4, ⟨ka, kc, (hb.cell hlt).trans c5, hk.below hb⟩, (hb.cell hlt).trans c6, (hb.cell hlt).trans c7⟩

/-- A slice of nodes: its length is the list's; where it has any, it leads to their cells. -/
def NdsAt (w : World) (a : Option Addr) (S : List Nd) : Prop :=
  ∀ i, i < S.length → ∃ b o, a = some ⟨b, o, none⟩ ∧ NdAt w b (o + i * 8) (nd S i)

theorem NdsAt.below {w w' : World} {a : Option Addr} {S : List Nd} (h : NdsAt w a S) (hb : Below w.heap.size w w') : NdsAt w' a S := fun i hi => by
  obtain ⟨b, o, e, hn⟩ := h i hi
  exact ⟨b, o, e, hn.below hb⟩

/-- No list of children is longer than a slice can be. -/
def Big (S : List Nd) : Prop := ∀ i, i < S.length → (nd S i).ks.length ≤ 9223372036854775807

def FitK (S : List Nd) (i : Nat) (x : Int) : Prop := x ≠ -1 ∧ (nd S x.toNat).u = true ∧ (nd S x.toNat).p = i
def FitU (S : List Nd) (k : Nat) : Prop := ∀ i, i < k → ∀ x ∈ (nd S i).ks, FitK S i x
def cntU (S : List Nd) (k j : Nat) : Nat := ((S.take k).flatMap Nd.ks).count (j : Int)
def cntK (l : List Int) (q j : Nat) : Nat := (l.take q).count (j : Int)
def KidsOk (S : List Nd) : Prop := FitU S S.length ∧ ∀ j, j < S.length → cntU S S.length j ≤ 1 ∧ ((nd S j).p ≠ -1 → cntU S S.length j ≠ 0)

theorem nd_elem {S : List Nd} {i : Nat} (h : i < S.length) : nd S i = S[i] := getD_elem S zeroNd h

theorem cntU_zero (S : List Nd) (j : Nat) : cntU S 0 j = 0 := by simp [cntU]
theorem cntU_succ (S : List Nd) (k j : Nat) (h : k < S.length) : cntU S (k + 1) j = cntU S k j + (nd S k).ks.count (j : Int) := by
  unfold cntU
  rw [List.take_succ_eq_append_getElem h, List.flatMap_append, List.count_append, nd_elem h]
  simp
theorem cntK_zero (l : List Int) (j : Nat) : cntK l 0 j = 0 := by simp [cntK]
theorem cntK_all (l : List Int) (j : Nat) : cntK l l.length j = l.count (j : Int) := by simp [cntK]
theorem cntK_succ (l : List Int) (q j : Nat) (h : q < l.length) : cntK l (q + 1) j = cntK l q j + (if l.getD q 0 = (j : Int) then 1 else 0) := by
  unfold cntK
  rw [List.take_succ_eq_append_getElem h, List.count_append, getD_elem l 0 h]
  by_cases e : l[q] = (j : Int) <;> simp [e]
theorem cntK_le (l : List Int) (q j : Nat) : cntK l q j ≤ q := by
  unfold cntK
  exact Nat.le_trans List.count_le_length (by rw [List.length_take]; omega)

theorem cntU_other (S : List Nd) (k j : Nat) (hk : k ≤ S.length) (hF : FitU S k) (hp : (nd S j).p = k) : cntU S k j = 0 := by
  unfold cntU
  rw [List.count_eq_zero]
  intro hm
  obtain ⟨y, hy, hj⟩ := List.mem_flatMap.1 hm
  obtain ⟨i, hi, rfl⟩ := List.getElem_of_mem hy
  rw [List.length_take] at hi
  have h3 := hF i (by omega) (j : Int) (by rw [nd_elem (by omega)]; simpa using hj)
  have := h3.2.2
  simp only [Int.toNat_natCast] at this
  omega
end Go.Proofs.Ytfcpgabimedjmaa
