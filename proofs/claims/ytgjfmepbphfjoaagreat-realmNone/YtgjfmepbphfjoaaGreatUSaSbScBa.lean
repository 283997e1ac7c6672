/-
  What a store handed in reads as (a list of nodes, each with the list of its children), and contracts of the searches of lists of numbers.
-/
import Derived.Test.YtgjfmepbphfjoaaGreatProg
import Derived.WalkKit
import Derived.Deep.LoopGhost
import Derived.Deep.Draws
import Derived.Laws.CopyOwn
import Derived.Deep.OwnRows
import Derived.Shelf.Abstract
import Derived.Laws.AppendOwn
import Derived.Laws.Rows
namespace Go.Proofs.YtgjfmepbphfjoaaGreat
open Go.RowKit

/-- A node: its fields, and the list of its children. -/
structure Nd where
  u : Bool
  n : Int
  t : Int
  m : Int
  p : Int
  ks : List Int
  h : Int
  c : Bool

def zeroNd : Nd := ⟨false, 0, 0, 0, 0, [], 0, false⟩

theorem getD_elem {α : Type} (l : List α) (d : α) {k : Nat} (h : k < l.length) : l.getD k d = l[k] := by
  simp [List.getD, h]

def IntsAt (w : World) (a : Option Addr) (ks : List Int) : Prop :=
  ∀ i, i < ks.length → ∃ b o, a = some ⟨b, o, none⟩ ∧ w.cell? ⟨b, o + i, none⟩ = some (.int .i64 (ks.getD i 0))

theorem IntsAt.below {w w' : World} {a : Option Addr} {ks : List Int} (h : IntsAt w a ks) (hb : Below w.heap.size w w') : IntsAt w' a ks := by
  intro i hi
  obtain ⟨b, o, e, hc⟩ := h i hi
  exact ⟨b, o, e, (hb.cell (World.block_lt_of_cell? w ⟨b, o + i, none⟩ hc)).trans hc⟩

/-- What is asked of a function value that tells yes or no of a number: in every world in which all that lay in w lies unturned, it answers p, and turns nothing. -/
def Tells (K : Nat) (caps : Array Value) (p : Int → Bool) (w : World) : Prop :=
  ∀ (x : Int) (w1 : World), Below w.heap.size w w1 → Calls Tryz.prog K (#[.int .i64 x] ++ caps) w1 fun e w2 => e = .returned (.bool (p x)) ∧ Below w1.heap.size w1 w2

set_option maxHeartbeats 400000 in
theorem indexFunc_any (K : Nat) (caps : Array Value) (p : Int → Bool) (a : Option Addr) (c : Nat) (ks : List Int) (w : World) (hbig : ks.length ≤ 9223372036854775807) (hks : IntsAt w a ks)
    (eg : ∀ args w, (callFunc K args).run Tryz.prog w = .ok (.enter K args) w) (hf : Tells K caps p w) :
    Calls Tryz.prog 121 #[.slice a ks.length c, .func (.func K) #[] caps] w fun e w' => ∃ r : Int, e = .returned (.int .i64 r) ∧ Below w.heap.size w w' ∧
      ((r = -1 ∧ ∀ i, i < ks.length → p (ks.getD i 0) = false) ∨ (∃ k : Nat, k < ks.length ∧ r = k ∧ p (ks.getD k 0) = true ∧ ∀ i, i < k → p (ks.getD i 0) = false)) := by
  generalize hn : ks.length = n at *
  go_enter Tryz.func121, Tryz.ntmps121
  go_wp2
  go_loopg [8] n (fun g s8 wr => ∃ k : Nat, k ≤ n ∧ n - k ≤ g ∧ s8 = .int .i64 k ∧ Below w.heap.size w wr ∧ Hid (∀ i, i < k → p (ks.getD i 0) = false))
  case atStart => exact ⟨0, by omega, by omega, rfl, Below.refl _ _, fun i hi => by omega⟩
  case round =>
    obtain ⟨k, hk, hg, rfl, hb, A⟩ := hrel
    by_cases hlt : k < n
    · obtain ⟨b, o, rfl, hc⟩ := (hks.below hb) k (by omega)
      have hcall := hf (ks.getD k 0) wr hb
      have F : Hid (Tells K caps p w) := hf
      have KS : Hid (IntsAt w (some ⟨b, o, none⟩) ks) := hks
      clear hks hf
      generalize hy : ks.getD k 0 = y at hc hcall
      have Y : Hid (ks.getD k 0 = y) := hy
      clear hy
      cases hq : p y with
      | true =>
        rw [hq] at hcall
        go_wp2_with (go_at_fn K; refine hcall.mono ?_; rintro e w' ⟨rfl, hb2⟩)
        go_ret
        exact ⟨k, rfl, hb.trans (hb2.mono hb.size), Or.inr ⟨k, hlt, rfl, by rw [Y.out]; exact hq, A.out⟩⟩
      | false =>
        rw [hq] at hcall
        go_wp2_with (go_at_fn K; refine hcall.mono ?_; rintro e w' ⟨rfl, hb2⟩)
        go_roundg (n - (k + 1))
        case measure => omega
        case rel =>
          refine ⟨k + 1, by omega, by omega, by go_num, hb.trans (hb2.mono hb.size), (show Hid _ from fun i hi => ?_)⟩
          by_cases e : i = k
          · subst e
            rw [Y.out]; exact hq
          · exact A.out i (by omega)
    · have : k = n := by omega
      subst this
      clear hks hf
      go_wp2
      go_ret
      exact ⟨-1, rfl, hb, Or.inl ⟨rfl, A.out⟩⟩

set_option maxHeartbeats 400000 in
theorem containsFunc_any (K : Nat) (caps : Array Value) (p : Int → Bool) (a : Option Addr) (c : Nat) (ks : List Int) (w : World) (hbig : ks.length ≤ 9223372036854775807) (hks : IntsAt w a ks)
    (eg : ∀ args w, (callFunc K args).run Tryz.prog w = .ok (.enter K args) w) (hf : Tells K caps p w) :
    Calls Tryz.prog 100 #[.slice a ks.length c, .func (.func K) #[] caps] w fun e w' => e = .returned (.bool (ks.any p)) ∧ Below w.heap.size w w' := by
  have h := indexFunc_any K caps p a c ks w hbig hks eg hf
  have any_of : ∀ k, k < ks.length → p (ks.getD k 0) = true → ks.any p = true := fun k hk hp => List.any_eq_true.2 ⟨ks.getD k 0, by rw [getD_elem _ _ hk]; exact List.getElem_mem hk, hp⟩
  have none_of : (∀ i, i < ks.length → p (ks.getD i 0) = false) → ks.any p = false := fun H => by
    rw [List.any_eq_false]
    intro x hx
    obtain ⟨i, hi, rfl⟩ := List.getElem_of_mem hx
    have := H i hi
    rw [getD_elem _ _ hi] at this
    simp [this]
  have H : Hid _ := any_of
  have N : Hid _ := none_of
  clear any_of none_of hks hf
  go_enter Tryz.func100, Tryz.ntmps100
  go_wp2_with (go_at_call 121; refine h.mono ?_; rintro e w' ⟨r, rfl, hb, hr⟩)
  go_ret
  refine ⟨?_, hb⟩
  rcases hr with ⟨rfl, hall⟩ | ⟨k, hk, rfl, hp, _⟩
  · rw [N.out hall]; rfl
  · rw [H.out k hk hp]
    simp
end Go.Proofs.YtgjfmepbphfjoaaGreat

namespace Go.Proofs.YtgjfmepbphfjoaaGreat
open Go.RowKit

set_option maxHeartbeats 400000 in
theorem within_any (x a b : Int) (w : World) :
    Calls Tryz.prog 54 #[.int .i64 x, .int .i64 a, .int .i64 b] w fun e w' => e = .returned (.bool (decide (a ≤ x ∧ x ≤ b))) ∧ w' = w := by
  by_cases h1 : a ≤ x
  · by_cases h2 : x ≤ b
    · have h : decide (a ≤ x ∧ x ≤ b) = true := by simp [h1, h2]
      rw [h]
      clear h
      go_enter Tryz.func54, Tryz.ntmps54
      go_wp2
      go_ret
      exact ⟨rfl, rfl⟩
    · have h : decide (a ≤ x ∧ x ≤ b) = false := by simp [h2]
      rw [h]
      clear h
      go_enter Tryz.func54, Tryz.ntmps54
      go_wp2
      go_ret
      exact ⟨rfl, rfl⟩
  · have h : decide (a ≤ x ∧ x ≤ b) = false := by simp [h1]
    rw [h]
    clear h
    go_enter Tryz.func54, Tryz.ntmps54
    go_wp2
    go_ret
    exact ⟨rfl, rfl⟩

theorem within_yes (x a b : Int) (w : World) (h1 : a ≤ x) (h2 : x ≤ b) :
    Calls Tryz.prog 54 #[.int .i64 x, .int .i64 a, .int .i64 b] w fun e w' => e = .returned (.bool true) ∧ w' = w := by
  have h := within_any x a b w
  rwa [decide_eq_true (by exact ⟨h1, h2⟩)] at h

theorem within_no (x a b : Int) (w : World) (h1 : x < a ∨ b < x) :
    Calls Tryz.prog 54 #[.int .i64 x, .int .i64 a, .int .i64 b] w fun e w' => e = .returned (.bool false) ∧ w' = w := by
  have h := within_any x a b w
  rwa [decide_eq_false (by omega)] at h

set_option maxHeartbeats 400000 in
theorem unused_any (n : Int) (w : World) :
    Calls Tryz.prog 75 #[.int .i64 n] w fun e w' => e = .returned (.agg #[.bool false, .int .i64 n, .int .i64 0, .int .i64 0, .int .i64 (-1), .slice none 0 0, .int .i64 (-1), .bool false]) ∧ w' = w.alloc (.cells #[.bool false, .int .i64 n, .int .i64 0, .int .i64 0, .int .i64 (-1), .slice none 0 0, .int .i64 (-1), .bool false] 47) := by
  go_enter Tryz.func75, Tryz.ntmps75
  go_wp2
  exact bodyPost_ret (v := .agg #[.bool false, .int .i64 n, .int .i64 0, .int .i64 0, .int .i64 (-1), .slice none 0 0, .int .i64 (-1), .bool false]) (by simp [results, Tryz.results75, go_sem]) rfl ⟨rfl, rfl⟩

/-- A number that is a place of N, or -1. -/
def okPl (N x : Int) : Bool := decide (-1 ≤ x ∧ x ≤ N - 1)

set_option maxHeartbeats 400000 in
theorem wrong_any (x N : Int) (b : Nat) (w : World) (hc : w.cell? ⟨b, 0, none⟩ = some (.int .i64 N)) (hN : 0 ≤ N ∧ N ≤ 24) :
    Calls Tryz.prog 118 #[.int .i64 x, .pointer (some ⟨b, 0, none⟩)] w fun e w' => e = .returned (.bool (!okPl N x)) ∧ w' = w := by
  have hw := within_any x (-1) (N - 1)
  rw [show decide (-1 ≤ x ∧ x ≤ N - 1) = okPl N x from rfl] at hw
  generalize okPl N x = r at hw
  go_enter Tryz.func118, Tryz.ntmps118
  go_wp2_with (go_at_call 54; refine (hw _).mono ?_; rintro e w' ⟨rfl, rfl⟩)
  go_ret
  exact ⟨rfl, rfl⟩

def rangeB (x : Nd) : Bool := decide (0 ≤ x.n ∧ x.n ≤ 1000000) && (decide (0 ≤ x.t ∧ x.t ≤ 99) && decide (-1000000 ≤ x.m ∧ x.m ≤ 1000000))

set_option maxHeartbeats 800000 in
theorem inRange_any (x : Nd) (k : Value) (w : World) :
    Calls Tryz.prog 95 #[.agg #[.bool x.u, .int .i64 x.n, .int .i64 x.t, .int .i64 x.m, .int .i64 x.p, k, .int .i64 x.h, .bool x.c]] w fun e w' => e = .returned (.bool (rangeB x)) ∧ Below w.heap.size w w' := by
  unfold rangeB
  have d1 := within_any x.n 0 1000000
  have d2 := within_any x.t 0 99
  have d3 := within_any x.m (-1000000) 1000000
  generalize decide (0 ≤ x.n ∧ x.n ≤ 1000000) = b1 at *
  generalize decide (0 ≤ x.t ∧ x.t ≤ 99) = b2 at *
  generalize decide (-1000000 ≤ x.m ∧ x.m ≤ 1000000) = b3 at *
  cases b1
  rotate_left
  cases b2
  rotate_left
  cases b3
  all_goals
    go_enter Tryz.func95, Tryz.ntmps95
    go_wp2_with (first | (go_at_call_of 54 (Value.int .i64 x.n); refine (d1 _).mono ?_; rintro e w' ⟨rfl, rfl⟩) | (go_at_call_of 54 (Value.int .i64 x.t); refine (d2 _).mono ?_; rintro e w' ⟨rfl, rfl⟩) | (go_at_call_of 54 (Value.int .i64 x.m); refine (d3 _).mono ?_; rintro e w' ⟨rfl, rfl⟩))
    go_ret
    exact ⟨rfl, (Below.refl _ _).alloc (Nat.le_refl _) _⟩

def namesB (N : Int) (x : Nd) : Bool := okPl N x.p && (okPl N x.h && !(x.ks.any fun k => !okPl N k))

set_option maxHeartbeats 1600000 in
theorem namesPlaces_any (x : Nd) (ka : Option Addr) (kc : Nat) (N : Int) (w : World) (hN : 0 ≤ N ∧ N ≤ 24) (hbig : x.ks.length ≤ 9223372036854775807) (hks : IntsAt w ka x.ks) :
    Calls Tryz.prog 96 #[.agg #[.bool x.u, .int .i64 x.n, .int .i64 x.t, .int .i64 x.m, .int .i64 x.p, .slice ka x.ks.length kc, .int .i64 x.h, .bool x.c], .int .i64 N] w fun e w' => e = .returned (.bool (namesB N x)) ∧ Below w.heap.size w w' := by
  unfold namesB
  have d1 := wrong_any x.p N
  have d2 := wrong_any x.h N
  have hT : ∀ w1 : World, w1.cell? ⟨w.heap.size + 1, 0, none⟩ = some (.int .i64 N) → Tells 118 #[.pointer (some ⟨w.heap.size + 1, 0, none⟩)] (fun k => !okPl N k) w1 := fun w1 h1 y w2 hb2 =>
    (wrong_any y N (w.heap.size + 1) w2 ((hb2.cell (World.block_lt_of_cell? w1 _ h1)).trans h1) hN).mono (fun e w3 h => ⟨h.1, by rw [h.2]; exact Below.refl _ _⟩)
  have d3 := fun (W : World) (hk : IntsAt W ka x.ks) (hc : W.cell? ⟨w.heap.size + 1, 0, none⟩ = some (.int .i64 N)) => containsFunc_any 118 #[.pointer (some ⟨w.heap.size + 1, 0, none⟩)] (fun k => !okPl N k) ka kc x.ks W hbig hk (enters_of Tryz.func118 (by kernel_rfl) rfl) (hT W hc)
  have hk2 : ∀ o1 o2, IntsAt ((w.alloc o1).alloc o2) ka x.ks := fun o1 o2 => hks.below (((Below.refl _ _).alloc (Nat.le_refl _) _).alloc (by simp) _)
  have K2 : Hid _ := hk2
  clear hk2 hks hT
  generalize okPl N x.p = b1 at *
  generalize okPl N x.h = b2 at *
  generalize (x.ks.any fun k => !okPl N k) = b3 at *
  cases b1
  rotate_left
  cases b2
  rotate_left
  cases b3
  all_goals
    go_enter Tryz.func96, Tryz.ntmps96
    go_wp2_with (first | (go_at_call_of 118 (Value.int .i64 x.p); refine (d1 _ _ (by go_simp) hN).mono ?_; rintro e w' ⟨rfl, rfl⟩) | (go_at_call_of 118 (Value.int .i64 x.h); refine (d2 _ _ (by go_simp) hN).mono ?_; rintro e w' ⟨rfl, rfl⟩) | (go_at_call 100; refine (d3 _ (K2.out _ _) (by go_simp)).mono ?_; rintro e w' ⟨rfl, hb⟩))
  all_goals go_ret
  all_goals first
    | exact ⟨rfl, ((Below.refl _ _).alloc (Nat.le_refl _) _).alloc (by simp) _⟩
    | exact ⟨rfl, (((Below.refl _ _).alloc (Nat.le_refl _) _).alloc (by simp) _).trans (hb.mono (by simp; omega))⟩

set_option maxHeartbeats 800000 in
theorem equal_any (a a' : Option Addr) (c c' : Nat) (ks ks' : List Int) (w : World) (hbig : ks.length ≤ 9223372036854775807) (h1 : IntsAt w a ks) (h2 : IntsAt w a' ks') :
    Calls Tryz.prog 19 #[.slice a ks.length c, .slice a' ks'.length c'] w fun e w' => e = .returned (.bool (decide (ks = ks'))) ∧ Below w.heap.size w w' := by
  by_cases hl : ks.length = ks'.length
  · have same : (∀ i, i < ks.length → ks.getD i 0 = ks'.getD i 0) → decide (ks = ks') = true := fun H => by
      refine decide_eq_true (List.ext_getElem hl fun i hi hi' => ?_)
      have := H i hi
      rwa [getD_elem _ _ hi, getD_elem _ _ hi'] at this
    have other : ∀ i, ks.getD i 0 ≠ ks'.getD i 0 → decide (ks = ks') = false := fun i H => decide_eq_false fun e => H (by rw [e])
    rw [← hl]
    have S : Hid _ := same
    have O : Hid _ := other
    clear same other
    generalize hn : ks.length = n at *
    go_enter Tryz.func19, Tryz.ntmps19
    go_wp2
    go_loopg [13] n (fun g s13 wr => ∃ k : Nat, k ≤ n ∧ n - k ≤ g ∧ s13 = .int .i64 k ∧ Below w.heap.size w wr ∧ Hid (∀ i, i < k → ks.getD i 0 = ks'.getD i 0))
    case atStart => exact ⟨0, Nat.zero_le _, by omega, rfl, Below.refl _ _, fun i hi => by omega⟩
    case round =>
      obtain ⟨k, hk, hg, rfl, hb, A⟩ := hrel
      by_cases hlt : k < n
      · obtain ⟨b, o, rfl, g1⟩ := (h1.below hb) k (by omega)
        obtain ⟨b', o', rfl, g2⟩ := (h2.below hb) k (by omega)
        clear h1 h2
        by_cases he : ks.getD k 0 = ks'.getD k 0
        · have E : Hid (ks.getD k 0 = ks'.getD k 0) := he
          rw [← he] at g2
          clear he
          generalize ks.getD k 0 = y at g1 g2
          go_wp2_with fail
          go_region
          all_goals go_wp2
          all_goals go_roundg (n - (k + 1))
          case measure => omega
          case rel =>
            refine ⟨k + 1, by omega, by omega, by go_num, hb.drew, (show Hid _ from fun i hi => ?_)⟩
            by_cases e : i = k
            · subst e
              exact E.out
            · exact A.out i (by omega)
        · have Z := O.out k he
          generalize ks.getD k 0 = y at g1 he
          generalize ks'.getD k 0 = y' at g2 he
          go_wp2_with fail
          go_region
          all_goals go_wp2
          all_goals go_ret
          rw [Z]
          exact ⟨rfl, hb.drew⟩
      · clear h1 h2
        have : k = n := by omega
        subst this
        go_wp2
        go_ret
        rw [S.out A.out]
        exact ⟨rfl, hb⟩
  · have hd : decide (ks = ks') = false := decide_eq_false fun e => hl (by rw [e])
    have hl' : ¬ ((ks.length : Int) = (ks'.length : Int)) := by omega
    rw [hd]
    clear h1 h2 hd
    generalize ks.length = n at *
    generalize ks'.length = n' at *
    go_enter Tryz.func19, Tryz.ntmps19
    go_wp2
    go_ret
    exact ⟨rfl, Below.refl _ _⟩
end Go.Proofs.YtgjfmepbphfjoaaGreat

namespace Go.Proofs.YtgjfmepbphfjoaaGreat
open Go.RowKit

theorem same_low {w w1 : World} {u u' : Bool} {n n' t t' m m' p p' : Int} {k k' : Value} {h h' : Int} {c c' : Bool} (hb : Below (w.heap.size + 1 + 1) ((w.alloc (.cells #[.bool u, .int .i64 n, .int .i64 t, .int .i64 m, .int .i64 p, k, .int .i64 h, .bool c] 47)).alloc (.cells #[.bool u', .int .i64 n', .int .i64 t', .int .i64 m', .int .i64 p', k', .int .i64 h', .bool c'] 47)) w1) :
    w1.cell? ⟨w.heap.size, 6, none⟩ = some (.int .i64 h) ∧ w1.cell? ⟨w.heap.size, 7, none⟩ = some (.bool c) ∧ w1.cell? ⟨w.heap.size + 1, 6, none⟩ = some (.int .i64 h') ∧ w1.cell? ⟨w.heap.size + 1, 7, none⟩ = some (.bool c') :=
  ⟨(hb.cell (by simp; omega)).trans (by go_simp), (hb.cell (by simp; omega)).trans (by go_simp), (hb.cell (by simp)).trans (by go_simp), (hb.cell (by simp)).trans (by go_simp)⟩

set_option maxHeartbeats 4000000 in
theorem sameNode_any (u u' : Bool) (n n' t t' m m' p p' : Int) (ks ks' : List Int) (ka ka' : Option Addr) (kc kc' : Nat) (h h' : Int) (c c' : Bool) (w : World) (hbig : ks.length ≤ 9223372036854775807) (h1 : IntsAt w ka ks) (h2 : IntsAt w ka' ks') :
    Calls Tryz.prog 78 #[.agg #[.bool u, .int .i64 n, .int .i64 t, .int .i64 m, .int .i64 p, .slice ka ks.length kc, .int .i64 h, .bool c], .agg #[.bool u', .int .i64 n', .int .i64 t', .int .i64 m', .int .i64 p', .slice ka' ks'.length kc', .int .i64 h', .bool c']] w fun e w' => e = .returned (.bool (decide (u = u' ∧ n = n' ∧ t = t' ∧ m = m' ∧ p = p' ∧ ks = ks' ∧ h = h' ∧ c = c'))) ∧ Below w.heap.size w w' := by
  have hk := fun (W : World) (g1 : IntsAt W ka ks) (g2 : IntsAt W ka' ks') => equal_any ka ka' kc kc' ks ks' W hbig g1 g2
  have i1 : ∀ o1 o2, IntsAt ((w.alloc o1).alloc o2) ka ks := fun o1 o2 => h1.below (((Below.refl _ _).alloc (Nat.le_refl _) _).alloc (by simp) _)
  have i2 : ∀ o1 o2, IntsAt ((w.alloc o1).alloc o2) ka' ks' := fun o1 o2 => h2.below (((Below.refl _ _).alloc (Nat.le_refl _) _).alloc (by simp) _)
  have I1 : Hid _ := i1
  have I2 : Hid _ := i2
  clear i1 i2 h1 h2
  by_cases Eu : u = u'
  · subst Eu
    by_cases En : n = n'
    · subst En
      by_cases Et : t = t'
      · subst Et
        by_cases Em : m = m'
        · subst Em
          by_cases Ep : p = p'
          · subst Ep
            by_cases EK : ks = ks'
            · have ED : decide (ks = ks') = true := decide_eq_true EK
              rw [ED] at hk
              clear ED
              by_cases Eh : h = h'
              · subst Eh
                by_cases Ec : c = c'
                · subst Ec
                  have hs : decide (u = u ∧ n = n ∧ t = t ∧ m = m ∧ p = p ∧ ks = ks' ∧ h = h ∧ c = c) = true := by simp [EK]
                  rw [hs]
                  clear hs EK
                  go_enter Tryz.func78, Tryz.ntmps78
                  go_wp2_with (go_at_call 19; refine (hk _ (I1.out _ _) (I2.out _ _)).mono ?_; rintro e w' ⟨rfl, hb⟩; simp only [World.size_alloc] at hb; obtain ⟨l1, l2, l3, l4⟩ := same_low hb)
                  go_ret
                  first
                    | exact ⟨rfl, ((Below.refl _ _).alloc (Nat.le_refl _) _).alloc (by simp) _⟩
                    | exact ⟨rfl, (((Below.refl _ _).alloc (Nat.le_refl _) _).alloc (by simp) _).trans (hb.mono (by omega))⟩
                · have hs : decide (u = u ∧ n = n ∧ t = t ∧ m = m ∧ p = p ∧ ks = ks' ∧ h = h ∧ c = c') = false := by simp [Ec]
                  rw [hs]
                  clear hs EK
                  cases c <;> cases c' <;> first | exact absurd rfl Ec | skip
                  all_goals
                    go_enter Tryz.func78, Tryz.ntmps78
                    go_wp2_with (go_at_call 19; refine (hk _ (I1.out _ _) (I2.out _ _)).mono ?_; rintro e w' ⟨rfl, hb⟩; simp only [World.size_alloc] at hb; obtain ⟨l1, l2, l3, l4⟩ := same_low hb)
                    go_ret
                    first
                      | exact ⟨rfl, ((Below.refl _ _).alloc (Nat.le_refl _) _).alloc (by simp) _⟩
                      | exact ⟨rfl, (((Below.refl _ _).alloc (Nat.le_refl _) _).alloc (by simp) _).trans (hb.mono (by omega))⟩
              · have hs : decide (u = u ∧ n = n ∧ t = t ∧ m = m ∧ p = p ∧ ks = ks' ∧ h = h' ∧ c = c') = false := by simp [Eh]
                rw [hs]
                clear hs EK
                go_enter Tryz.func78, Tryz.ntmps78
                go_wp2_with (go_at_call 19; refine (hk _ (I1.out _ _) (I2.out _ _)).mono ?_; rintro e w' ⟨rfl, hb⟩; simp only [World.size_alloc] at hb; obtain ⟨l1, l2, l3, l4⟩ := same_low hb)
                go_ret
                first
                  | exact ⟨rfl, ((Below.refl _ _).alloc (Nat.le_refl _) _).alloc (by simp) _⟩
                  | exact ⟨rfl, (((Below.refl _ _).alloc (Nat.le_refl _) _).alloc (by simp) _).trans (hb.mono (by omega))⟩
            · have ED : decide (ks = ks') = false := decide_eq_false EK
              rw [ED] at hk
              have hs : decide (u = u ∧ n = n ∧ t = t ∧ m = m ∧ p = p ∧ ks = ks' ∧ h = h' ∧ c = c') = false := by simp [EK]
              rw [hs]
              clear hs EK ED
              go_enter Tryz.func78, Tryz.ntmps78
              go_wp2_with (go_at_call 19; refine (hk _ (I1.out _ _) (I2.out _ _)).mono ?_; rintro e w' ⟨rfl, hb⟩; simp only [World.size_alloc] at hb; obtain ⟨l1, l2, l3, l4⟩ := same_low hb)
              go_ret
              first
                | exact ⟨rfl, ((Below.refl _ _).alloc (Nat.le_refl _) _).alloc (by simp) _⟩
                | exact ⟨rfl, (((Below.refl _ _).alloc (Nat.le_refl _) _).alloc (by simp) _).trans (hb.mono (by omega))⟩
          · have hs : decide (u = u ∧ n = n ∧ t = t ∧ m = m ∧ p = p' ∧ ks = ks' ∧ h = h' ∧ c = c') = false := by simp [Ep]
            rw [hs]
            clear hs
            go_enter Tryz.func78, Tryz.ntmps78
            go_wp2_with (go_at_call 19; refine (hk _ (I1.out _ _) (I2.out _ _)).mono ?_; rintro e w' ⟨rfl, hb⟩; simp only [World.size_alloc] at hb; obtain ⟨l1, l2, l3, l4⟩ := same_low hb)
            go_ret
            first
              | exact ⟨rfl, ((Below.refl _ _).alloc (Nat.le_refl _) _).alloc (by simp) _⟩
              | exact ⟨rfl, (((Below.refl _ _).alloc (Nat.le_refl _) _).alloc (by simp) _).trans (hb.mono (by omega))⟩
        · have hs : decide (u = u ∧ n = n ∧ t = t ∧ m = m' ∧ p = p' ∧ ks = ks' ∧ h = h' ∧ c = c') = false := by simp [Em]
          rw [hs]
          clear hs
          go_enter Tryz.func78, Tryz.ntmps78
          go_wp2_with (go_at_call 19; refine (hk _ (I1.out _ _) (I2.out _ _)).mono ?_; rintro e w' ⟨rfl, hb⟩; simp only [World.size_alloc] at hb; obtain ⟨l1, l2, l3, l4⟩ := same_low hb)
          go_ret
          first
            | exact ⟨rfl, ((Below.refl _ _).alloc (Nat.le_refl _) _).alloc (by simp) _⟩
            | exact ⟨rfl, (((Below.refl _ _).alloc (Nat.le_refl _) _).alloc (by simp) _).trans (hb.mono (by omega))⟩
      · have hs : decide (u = u ∧ n = n ∧ t = t' ∧ m = m' ∧ p = p' ∧ ks = ks' ∧ h = h' ∧ c = c') = false := by simp [Et]
        rw [hs]
        clear hs
        go_enter Tryz.func78, Tryz.ntmps78
        go_wp2_with (go_at_call 19; refine (hk _ (I1.out _ _) (I2.out _ _)).mono ?_; rintro e w' ⟨rfl, hb⟩; simp only [World.size_alloc] at hb; obtain ⟨l1, l2, l3, l4⟩ := same_low hb)
        go_ret
        first
          | exact ⟨rfl, ((Below.refl _ _).alloc (Nat.le_refl _) _).alloc (by simp) _⟩
          | exact ⟨rfl, (((Below.refl _ _).alloc (Nat.le_refl _) _).alloc (by simp) _).trans (hb.mono (by omega))⟩
    · have hs : decide (u = u ∧ n = n' ∧ t = t' ∧ m = m' ∧ p = p' ∧ ks = ks' ∧ h = h' ∧ c = c') = false := by simp [En]
      rw [hs]
      clear hs
      go_enter Tryz.func78, Tryz.ntmps78
      go_wp2_with (go_at_call 19; refine (hk _ (I1.out _ _) (I2.out _ _)).mono ?_; rintro e w' ⟨rfl, hb⟩; simp only [World.size_alloc] at hb; obtain ⟨l1, l2, l3, l4⟩ := same_low hb)
      go_ret
      first
        | exact ⟨rfl, ((Below.refl _ _).alloc (Nat.le_refl _) _).alloc (by simp) _⟩
        | exact ⟨rfl, (((Below.refl _ _).alloc (Nat.le_refl _) _).alloc (by simp) _).trans (hb.mono (by omega))⟩
  · have hs : decide (u = u' ∧ n = n' ∧ t = t' ∧ m = m' ∧ p = p' ∧ ks = ks' ∧ h = h' ∧ c = c') = false := by simp [Eu]
    rw [hs]
    clear hs
    cases u <;> cases u' <;> first | exact absurd rfl Eu | skip
    all_goals
      go_enter Tryz.func78, Tryz.ntmps78
      go_wp2_with (go_at_call 19; refine (hk _ (I1.out _ _) (I2.out _ _)).mono ?_; rintro e w' ⟨rfl, hb⟩; simp only [World.size_alloc] at hb; obtain ⟨l1, l2, l3, l4⟩ := same_low hb)
      go_ret
      first
        | exact ⟨rfl, ((Below.refl _ _).alloc (Nat.le_refl _) _).alloc (by simp) _⟩
        | exact ⟨rfl, (((Below.refl _ _).alloc (Nat.le_refl _) _).alloc (by simp) _).trans (hb.mono (by omega))⟩

def formB (x : Nd) : Bool := if x.u then (if x.n = 0 then false else if x.h = -1 then !x.c else decide (x.p = -1)) else decide (x.t = 0 ∧ x.m = 0 ∧ x.p = -1 ∧ x.ks = [] ∧ x.h = -1 ∧ x.c = false)

theorem ints_nil (w : World) (a : Option Addr) : IntsAt w a [] := fun _ hi => absurd hi (Nat.not_lt_zero _)

theorem sameNode_unused (n n' t m p : Int) (ks : List Int) (ka : Option Addr) (kc : Nat) (h : Int) (c : Bool) (w : World) (hn : n' = n) (hbig : ks.length ≤ 9223372036854775807) (h1 : IntsAt w ka ks) :
    Calls Tryz.prog 78 #[.agg #[.bool false, .int .i64 n, .int .i64 t, .int .i64 m, .int .i64 p, .slice ka ks.length kc, .int .i64 h, .bool c], .agg #[.bool false, .int .i64 n', .int .i64 0, .int .i64 0, .int .i64 (-1), .slice none 0 0, .int .i64 (-1), .bool false]] w fun e w' => e = .returned (.bool (decide (t = 0 ∧ m = 0 ∧ p = -1 ∧ ks = [] ∧ h = -1 ∧ c = false))) ∧ Below w.heap.size w w' := by
  subst hn
  have H := sameNode_any false false n' n' t 0 m 0 p (-1) ks [] ka none kc 0 h (-1) c false w hbig h1 (ints_nil _ _)
  have e : decide (false = false ∧ n' = n' ∧ t = 0 ∧ m = 0 ∧ p = -1 ∧ ks = [] ∧ h = -1 ∧ c = false) = decide (t = 0 ∧ m = 0 ∧ p = -1 ∧ ks = [] ∧ h = -1 ∧ c = false) := by
    congr 1; simp
  rw [e] at H
  exact H
end Go.Proofs.YtgjfmepbphfjoaaGreat

namespace Go.Proofs.YtgjfmepbphfjoaaGreat
open Go.RowKit

theorem alloc_cell (W : World) (xs : Array Value) (t j : Nat) {v : Value} (h : xs[j]? = some v) : (W.alloc (.cells xs t)).cell? ⟨W.heap.size, j, none⟩ = some v := by
  have e := heap_alloc_new W (.cells xs t)
  simp only [World.cell?, e]
  exact h
theorem keepC {W W' : World} {b o : Nat} {v : Value} (h : W.cell? ⟨b, o, none⟩ = some v) (hb : Below W.heap.size W W') : W'.cell? ⟨b, o, none⟩ = some v := (hb.cell (World.block_lt_of_cell? _ _ h)).trans h
theorem one_belowS (w : World) (o1 : Obj) : Below w.heap.size w (w.alloc o1) := (Below.refl _ _).alloc (Nat.le_refl _) _
theorem two_belowS (w : World) (o1 o2 : Obj) : Below w.heap.size w ((w.alloc o1).alloc o2) := ((Below.refl _ _).alloc (Nat.le_refl _) _).alloc (by simp) _
theorem alloc_cell1 (W : World) (xs : Array Value) (t j : Nat) {v : Value} (o2 : Obj) (h : xs[j]? = some v) : ((W.alloc (.cells xs t)).alloc o2).cell? ⟨W.heap.size, j, none⟩ = some v := keepC (alloc_cell W xs t j h) (one_belowS _ _)
theorem alloc_cell2 (W : World) (xs : Array Value) (t j : Nat) {v : Value} (o1 : Obj) (h : xs[j]? = some v) : ((W.alloc o1).alloc (.cells xs t)).cell? ⟨W.heap.size + 1, j, none⟩ = some v := by
  have := alloc_cell (W.alloc o1) xs t j h
  simpa using this

theorem owns_block {w w' : World} {B e size n : Nat} {v : Value} {xs : List Value} (h : w.ownsRow B e size v n xs) (hb : ∀ k, v.ownBlock = some k → w'.heap[k]? = w.heap[k]?) : w'.ownsRow B e size v n xs := by
  obtain ⟨hl, h⟩ := h
  refine ⟨hl, ?_⟩
  rcases h with h | ⟨g, cap, cur, rfl, h1, h2, h3⟩
  · exact Or.inl h
  · exact Or.inr ⟨g, cap, cur, rfl, h1, (hb g rfl).trans h2, h3⟩

theorem ownsRow_baseL {w : World} {B B' e size n : Nat} {v : Value} {xs : List Value} (h : w.ownsRow B e size v n xs) (hB : B' ≤ B) : w.ownsRow B' e size v n xs := by
  obtain ⟨hl, h⟩ := h
  refine ⟨hl, ?_⟩
  rcases h with h | ⟨g, cap, cur, rfl, h1, h2, h3⟩
  · exact Or.inl h
  · exact Or.inr ⟨g, cap, cur, rfl, by omega, h2, h3⟩

/-- Two rows of different types are not one. -/
theorem owns_apart {w : World} {B B' e e' size size' n n' : Nat} {v v' : Value} {xs xs' : List Value} (h : w.ownsRow B e size v n xs) (h' : w.ownsRow B' e' size' v' n' xs') (hne : e ≠ e') : ∀ k, v.ownBlock = some k → v'.ownBlock ≠ some k := by
  intro k hk hk'
  obtain ⟨_, h⟩ := h
  obtain ⟨_, h'⟩ := h'
  rcases h with ⟨rfl, _⟩ | ⟨g, cap, cur, rfl, _, h2, _⟩
  · cases hk
  rcases h' with ⟨rfl, _⟩ | ⟨g', cap', cur', rfl, _, h2', _⟩
  · cases hk'
  cases hk
  cases hk'
  rw [h2] at h2'
  cases h2'
  exact hne rfl

theorem ints_own {B : Nat} {w2 : World} {v : Value} {l : List Int} {n : Nat} (hown : w2.ownsRow B 3 1 v n (l.map (Value.int .i64))) : ∃ sa cap, v = .slice sa l.length cap ∧ IntsAt w2 sa l := by
  have hn : n = l.length := by have := hown.1; simp at this; omega
  subst hn
  obtain ⟨hl, h⟩ := hown
  rcases h with ⟨rfl, h0⟩ | ⟨g, cap, cur, rfl, _, hg, h1, h2, h3, h4⟩
  · exact ⟨none, 0, by rw [h0], fun i hi => by omega⟩
  · refine ⟨some ⟨g, 0, none⟩, cap, rfl, fun i hi => ⟨g, 0, rfl, ?_⟩⟩
    have h5 : (cur.toList.take (l.length * 1))[i]? = some (.int .i64 (l.getD i 0)) := by
      rw [h4, List.getElem?_map, List.getElem?_eq_getElem hi, getD_elem l 0 hi]; rfl
    rw [List.getElem?_take, if_pos (by omega)] at h5
    simp only [Nat.zero_add, World.cell?, hg]
    simpa using h5

theorem box_set {w : World} {b t : Nat} {v v' : Value} (h : w.heap[b]? = some (.cells #[v] t (0, 0))) : (w.setCell ⟨b, 0, none⟩ v').heap[b]? = some (.cells #[v'] t (0, 0)) := by
  show (w.heap.modify b _)[b]? = _
  rw [Array.getElem?_modify, if_pos rfl, h]
  rfl

theorem box_frozen {w : World} {b t o : Nat} {v : Value} (h : w.heap[b]? = some (.cells #[v] t (0, 0))) : w.frozen? ⟨b, o, none⟩ = false := by
  simp [World.frozen?, h]

/-- A block of cells is no map, and the other way round. -/
theorem box_cell {w : World} {b t : Nat} {v : Value} (h : w.heap[b]? = some (.cells #[v] t (0, 0))) : w.cell? ⟨b, 0, none⟩ = some v := by
  simp [World.cell?, h]
theorem box_lt {w : World} {b : Nat} {o : Obj} (h : w.heap[b]? = some o) : b < w.heap.size := (Array.getElem?_eq_some_iff.1 h).1

theorem own_of_row {w : World} {B g cap : Nat} {l : List Int} {G : Nat → Value} (h : w.rowIs g 3 cap G) (hg : ∀ j, j < l.length → G j = .int .i64 (l.getD j 0)) (h1 : l.length ≤ cap) (h2 : cap ≤ maxLen) (h3 : B ≤ g) : w.ownsRow B 3 1 (.slice (some ⟨g, 0, none⟩) l.length cap) l.length (l.map (Value.int .i64)) := by
  obtain ⟨cur, hc, hs, hf⟩ := h
  refine ⟨by simp, Or.inr ⟨g, cap, cur, rfl, h3, hc, h1, h2, by omega, ?_⟩⟩
  rw [Nat.mul_one]
  refine List.ext_getElem? fun j => ?_
  rw [List.getElem?_take, List.getElem?_map]
  by_cases hj : j < l.length
  · rw [if_pos hj, Array.getElem?_toList, hf j (by omega), hg j hj, List.getElem?_eq_getElem hj, getD_elem l 0 hj]
    rfl
  · rw [if_neg hj, List.getElem?_eq_none (by omega)]
    rfl
end Go.Proofs.YtgjfmepbphfjoaaGreat
