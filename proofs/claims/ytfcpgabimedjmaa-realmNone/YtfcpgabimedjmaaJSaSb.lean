/-
  What a store handed in reads as (a list of nodes, each with the list of its children), and contracts of the searches of lists of numbers.
-/
import Derived.Test.YtfcpgabimedjmaaProg
import Derived.WalkKit
import Derived.Deep.LoopGhost
import Derived.Deep.Draws
import Derived.Laws.CopyOwn
import Derived.Deep.OwnRows
import Derived.Shelf.Abstract
namespace Go.Proofs.Ytfcpgabimedjmaa
open Go.RowKit

/-- A node: its fields, and the list of its children. -/
structure Nd where
  u : Bool
  n : Int
  t : Int
  m : Int
  p : Int
  ks : List Int
  h : Int
  c : Bool

def zeroNd : Nd := ⟨false, 0, 0, 0, 0, [], 0, false⟩

theorem getD_elem {α : Type} (l : List α) (d : α) {k : Nat} (h : k < l.length) : l.getD k d = l[k] := by
  simp [List.getD, h]

def IntsAt (w : World) (a : Option Addr) (ks : List Int) : Prop :=
  ∀ i, i < ks.length → ∃ b o, a = some ⟨b, o, none⟩ ∧ w.cell? ⟨b, o + i, none⟩ = some (.int .i64 (ks.getD i 0))

theorem IntsAt.below {w w' : World} {a : Option Addr} {ks : List Int} (h : IntsAt w a ks) (hb : Below w.heap.size w w') : IntsAt w' a ks := by
  intro i hi
  obtain ⟨b, o, e, hc⟩ := h i hi
  exact ⟨b, o, e, (hb.cell (World.block_lt_of_cell? w ⟨b, o + i, none⟩ hc)).trans hc⟩

/-- What is asked of a function value that tells yes or no of a number: in every world in which all that lay in w lies unturned, it answers p, and turns nothing. -/
def Tells (K : Nat) (caps : Array Value) (p : Int → Bool) (w : World) : Prop :=
  ∀ (x : Int) (w1 : World), Below w.heap.size w w1 → Calls Try.prog K (#[.int .i64 x] ++ caps) w1 fun e w2 => e = .returned (.bool (p x)) ∧ Below w1.heap.size w1 w2

set_option maxHeartbeats 400000 in
theorem indexFunc_any (K : Nat) (caps : Array Value) (p : Int → Bool) (a : Option Addr) (c : Nat) (ks : List Int) (w : World) (hbig : ks.length ≤ 9223372036854775807) (hks : IntsAt w a ks)
    (eg : ∀ args w, (callFunc K args).run Try.prog w = .ok (.enter K args) w) (hf : Tells K caps p w) :
    Calls Try.prog 67 #[.slice a ks.length c, .func (.func K) #[] caps] w fun e w' => ∃ r : Int, e = .returned (.int .i64 r) ∧ Below w.heap.size w w' ∧
      ((r = -1 ∧ ∀ i, i < ks.length → p (ks.getD i 0) = false) ∨ (∃ k : Nat, k < ks.length ∧ r = k ∧ p (ks.getD k 0) = true ∧ ∀ i, i < k → p (ks.getD i 0) = false)) := by
  generalize hn : ks.length = n at *
  go_enter Try.func67, Try.ntmps67
  go_wp2
  go_loopg [8] n (fun g s8 wr => ∃ k : Nat, k ≤ n ∧ n - k ≤ g ∧ s8 = .int .i64 k ∧ Below w.heap.size w wr ∧ Hid (∀ i, i < k → p (ks.getD i 0) = false))
  case atStart => exact ⟨0, by omega, by omega, rfl, Below.refl _ _, fun i hi => by omega⟩
  case round =>
    obtain ⟨k, hk, hg, rfl, hb, A⟩ := hrel
    by_cases hlt : k < n
    · obtain ⟨b, o, rfl, hc⟩ := (hks.below hb) k (by omega)
      have hcall := hf (ks.getD k 0) wr hb
      have F : Hid (Tells K caps p w) := hf
      have KS : Hid (IntsAt w (some ⟨b, o, none⟩) ks) := hks
      clear hks hf
      generalize hy : ks.getD k 0 = y at hc hcall
      have Y : Hid (ks.getD k 0 = y) := hy
      clear hy
      cases hq : p y with
      | true =>
        rw [hq] at hcall
        go_wp2_with (go_at_fn K; refine hcall.mono ?_; rintro e w' ⟨rfl, hb2⟩)
        go_ret
        exact ⟨k, rfl, hb.trans (hb2.mono hb.size), Or.inr ⟨k, hlt, rfl, by rw [Y.out]; exact hq, A.out⟩⟩
      | false =>
        rw [hq] at hcall
        go_wp2_with (go_at_fn K; refine hcall.mono ?_; rintro e w' ⟨rfl, hb2⟩)
        go_roundg (n - (k + 1))
        case measure => omega
        case rel =>
          refine ⟨k + 1, by omega, by omega, by go_num, hb.trans (hb2.mono hb.size), (show Hid _ from fun i hi => ?_)⟩
          by_cases e : i = k
          · subst e
            rw [Y.out]; exact hq
          · exact A.out i (by omega)
    · have : k = n := by omega
      subst this
      clear hks hf
      go_wp2
      go_ret
      exact ⟨-1, rfl, hb, Or.inl ⟨rfl, A.out⟩⟩

set_option maxHeartbeats 400000 in
theorem containsFunc_any (K : Nat) (caps : Array Value) (p : Int → Bool) (a : Option Addr) (c : Nat) (ks : List Int) (w : World) (hbig : ks.length ≤ 9223372036854775807) (hks : IntsAt w a ks)
    (eg : ∀ args w, (callFunc K args).run Try.prog w = .ok (.enter K args) w) (hf : Tells K caps p w) :
    Calls Try.prog 49 #[.slice a ks.length c, .func (.func K) #[] caps] w fun e w' => e = .returned (.bool (ks.any p)) ∧ Below w.heap.size w w' := by
  have h := indexFunc_any K caps p a c ks w hbig hks eg hf
  have any_of : ∀ k, k < ks.length → p (ks.getD k 0) = true → ks.any p = true := fun k hk hp => List.any_eq_true.2 ⟨ks.getD k 0, by rw [getD_elem _ _ hk]; exact List.getElem_mem hk, hp⟩
  have none_of : (∀ i, i < ks.length → p (ks.getD i 0) = false) → ks.any p = false := fun H => by
    rw [List.any_eq_false]
    intro x hx
    obtain ⟨i, hi, rfl⟩ := List.getElem_of_mem hx
    have := H i hi
    rw [getD_elem _ _ hi] at this
    simp [this]
  have H : Hid _ := any_of
  have N : Hid _ := none_of
  clear any_of none_of hks hf
  go_enter Try.func49, Try.ntmps49
  go_wp2_with (go_at_call 67; refine h.mono ?_; rintro e w' ⟨r, rfl, hb, hr⟩)
  go_ret
  refine ⟨?_, hb⟩
  rcases hr with ⟨rfl, hall⟩ | ⟨k, hk, rfl, hp, _⟩
  · rw [N.out hall]; rfl
  · rw [H.out k hk hp]
    simp
end Go.Proofs.Ytfcpgabimedjmaa

namespace Go.Proofs.Ytfcpgabimedjmaa
open Go.RowKit

set_option maxHeartbeats 400000 in
theorem within_any (x a b : Int) (w : World) :
    Calls Try.prog 23 #[.int .i64 x, .int .i64 a, .int .i64 b] w fun e w' => e = .returned (.bool (decide (a ≤ x ∧ x ≤ b))) ∧ w' = w := by
  by_cases h1 : a ≤ x
  · by_cases h2 : x ≤ b
    · have h : decide (a ≤ x ∧ x ≤ b) = true := by simp [h1, h2]
      rw [h]
      clear h
      go_enter Try.func23, Try.ntmps23
      go_wp2
      go_ret
      exact ⟨rfl, rfl⟩
    · have h : decide (a ≤ x ∧ x ≤ b) = false := by simp [h2]
      rw [h]
      clear h
      go_enter Try.func23, Try.ntmps23
      go_wp2
      go_ret
      exact ⟨rfl, rfl⟩
  · have h : decide (a ≤ x ∧ x ≤ b) = false := by simp [h1]
    rw [h]
    clear h
    go_enter Try.func23, Try.ntmps23
    go_wp2
    go_ret
    exact ⟨rfl, rfl⟩

theorem within_yes (x a b : Int) (w : World) (h1 : a ≤ x) (h2 : x ≤ b) :
    Calls Try.prog 23 #[.int .i64 x, .int .i64 a, .int .i64 b] w fun e w' => e = .returned (.bool true) ∧ w' = w := by
  have h := within_any x a b w
  rwa [decide_eq_true (by exact ⟨h1, h2⟩)] at h

theorem within_no (x a b : Int) (w : World) (h1 : x < a ∨ b < x) :
    Calls Try.prog 23 #[.int .i64 x, .int .i64 a, .int .i64 b] w fun e w' => e = .returned (.bool false) ∧ w' = w := by
  have h := within_any x a b w
  rwa [decide_eq_false (by omega)] at h

set_option maxHeartbeats 400000 in
theorem unused_any (n : Int) (w : World) :
    Calls Try.prog 43 #[.int .i64 n] w fun e w' => e = .returned (.agg #[.bool false, .int .i64 n, .int .i64 0, .int .i64 0, .int .i64 (-1), .slice none 0 0, .int .i64 (-1), .bool false]) ∧ w' = w.alloc (.cells #[.bool false, .int .i64 n, .int .i64 0, .int .i64 0, .int .i64 (-1), .slice none 0 0, .int .i64 (-1), .bool false] 47) := by
  go_enter Try.func43, Try.ntmps43
  go_wp2
  exact bodyPost_ret (v := .agg #[.bool false, .int .i64 n, .int .i64 0, .int .i64 0, .int .i64 (-1), .slice none 0 0, .int .i64 (-1), .bool false]) (by simp [results, Try.results43, go_sem]) rfl ⟨rfl, rfl⟩

/-- A number that is a place of N, or -1. -/
def okPl (N x : Int) : Bool := decide (-1 ≤ x ∧ x ≤ N - 1)

set_option maxHeartbeats 400000 in
theorem wrong_any (x N : Int) (b : Nat) (w : World) (hc : w.cell? ⟨b, 0, none⟩ = some (.int .i64 N)) (hN : 0 ≤ N ∧ N ≤ 24) :
    Calls Try.prog 63 #[.int .i64 x, .pointer (some ⟨b, 0, none⟩)] w fun e w' => e = .returned (.bool (!okPl N x)) ∧ w' = w := by
  have hw := within_any x (-1) (N - 1)
  rw [show decide (-1 ≤ x ∧ x ≤ N - 1) = okPl N x from rfl] at hw
  generalize okPl N x = r at hw
  go_enter Try.func63, Try.ntmps63
  go_wp2_with (go_at_call 23; refine (hw _).mono ?_; rintro e w' ⟨rfl, rfl⟩)
  go_ret
  exact ⟨rfl, rfl⟩

def rangeB (x : Nd) : Bool := decide (0 ≤ x.n ∧ x.n ≤ 1000000) && (decide (0 ≤ x.t ∧ x.t ≤ 99) && decide (-1000000 ≤ x.m ∧ x.m ≤ 1000000))

set_option maxHeartbeats 800000 in
theorem inRange_any (x : Nd) (k : Value) (w : World) :
    Calls Try.prog 44 #[.agg #[.bool x.u, .int .i64 x.n, .int .i64 x.t, .int .i64 x.m, .int .i64 x.p, k, .int .i64 x.h, .bool x.c]] w fun e w' => e = .returned (.bool (rangeB x)) ∧ Below w.heap.size w w' := by
  unfold rangeB
  have d1 := within_any x.n 0 1000000
  have d2 := within_any x.t 0 99
  have d3 := within_any x.m (-1000000) 1000000
  generalize decide (0 ≤ x.n ∧ x.n ≤ 1000000) = b1 at *
  generalize decide (0 ≤ x.t ∧ x.t ≤ 99) = b2 at *
  generalize decide (-1000000 ≤ x.m ∧ x.m ≤ 1000000) = b3 at *
  cases b1
  rotate_left
  cases b2
  rotate_left
  cases b3
  all_goals
    go_enter Try.func44, Try.ntmps44
    go_wp2_with (first | (go_at_call_of 23 (Value.int .i64 x.n); refine (d1 _).mono ?_; rintro e w' ⟨rfl, rfl⟩) | (go_at_call_of 23 (Value.int .i64 x.t); refine (d2 _).mono ?_; rintro e w' ⟨rfl, rfl⟩) | (go_at_call_of 23 (Value.int .i64 x.m); refine (d3 _).mono ?_; rintro e w' ⟨rfl, rfl⟩))
    go_ret
    exact ⟨rfl, (Below.refl _ _).alloc (Nat.le_refl _) _⟩

def namesB (N : Int) (x : Nd) : Bool := okPl N x.p && (okPl N x.h && !(x.ks.any fun k => !okPl N k))

set_option maxHeartbeats 1600000 in
theorem namesPlaces_any (x : Nd) (ka : Option Addr) (kc : Nat) (N : Int) (w : World) (hN : 0 ≤ N ∧ N ≤ 24) (hbig : x.ks.length ≤ 9223372036854775807) (hks : IntsAt w ka x.ks) :
    Calls Try.prog 45 #[.agg #[.bool x.u, .int .i64 x.n, .int .i64 x.t, .int .i64 x.m, .int .i64 x.p, .slice ka x.ks.length kc, .int .i64 x.h, .bool x.c], .int .i64 N] w fun e w' => e = .returned (.bool (namesB N x)) ∧ Below w.heap.size w w' := by
  unfold namesB
  have d1 := wrong_any x.p N
  have d2 := wrong_any x.h N
  have hT : ∀ w1 : World, w1.cell? ⟨w.heap.size + 1, 0, none⟩ = some (.int .i64 N) → Tells 63 #[.pointer (some ⟨w.heap.size + 1, 0, none⟩)] (fun k => !okPl N k) w1 := fun w1 h1 y w2 hb2 =>
    (wrong_any y N (w.heap.size + 1) w2 ((hb2.cell (World.block_lt_of_cell? w1 _ h1)).trans h1) hN).mono (fun e w3 h => ⟨h.1, by rw [h.2]; exact Below.refl _ _⟩)
  have d3 := fun (W : World) (hk : IntsAt W ka x.ks) (hc : W.cell? ⟨w.heap.size + 1, 0, none⟩ = some (.int .i64 N)) => containsFunc_any 63 #[.pointer (some ⟨w.heap.size + 1, 0, none⟩)] (fun k => !okPl N k) ka kc x.ks W hbig hk (enters_of Try.func63 (by kernel_rfl) rfl) (hT W hc)
  have hk2 : ∀ o1 o2, IntsAt ((w.alloc o1).alloc o2) ka x.ks := fun o1 o2 => hks.below (((Below.refl _ _).alloc (Nat.le_refl _) _).alloc (by simp) _)
  have K2 : Hid _ := hk2
  clear hk2 hks hT
  generalize okPl N x.p = b1 at *
  generalize okPl N x.h = b2 at *
  generalize (x.ks.any fun k => !okPl N k) = b3 at *
  cases b1
  rotate_left
  cases b2
  rotate_left
  cases b3
  all_goals
    go_enter Try.func45, Try.ntmps45
    go_wp2_with (first | (go_at_call_of 63 (Value.int .i64 x.p); refine (d1 _ _ (by go_simp) hN).mono ?_; rintro e w' ⟨rfl, rfl⟩) | (go_at_call_of 63 (Value.int .i64 x.h); refine (d2 _ _ (by go_simp) hN).mono ?_; rintro e w' ⟨rfl, rfl⟩) | (go_at_call 49; refine (d3 _ (K2.out _ _) (by go_simp)).mono ?_; rintro e w' ⟨rfl, hb⟩))
  all_goals go_ret
  all_goals first
    | exact ⟨rfl, ((Below.refl _ _).alloc (Nat.le_refl _) _).alloc (by simp) _⟩
    | exact ⟨rfl, (((Below.refl _ _).alloc (Nat.le_refl _) _).alloc (by simp) _).trans (hb.mono (by simp; omega))⟩

set_option maxHeartbeats 800000 in
theorem equal_any (a a' : Option Addr) (c c' : Nat) (ks ks' : List Int) (w : World) (hbig : ks.length ≤ 9223372036854775807) (h1 : IntsAt w a ks) (h2 : IntsAt w a' ks') :
    Calls Try.prog 82 #[.slice a ks.length c, .slice a' ks'.length c'] w fun e w' => e = .returned (.bool (decide (ks = ks'))) ∧ Below w.heap.size w w' := by
  by_cases hl : ks.length = ks'.length
  · have same : (∀ i, i < ks.length → ks.getD i 0 = ks'.getD i 0) → decide (ks = ks') = true := fun H => by
      refine decide_eq_true (List.ext_getElem hl fun i hi hi' => ?_)
      have := H i hi
      rwa [getD_elem _ _ hi, getD_elem _ _ hi'] at this
    have other : ∀ i, ks.getD i 0 ≠ ks'.getD i 0 → decide (ks = ks') = false := fun i H => decide_eq_false fun e => H (by rw [e])
    rw [← hl]
    have S : Hid _ := same
    have O : Hid _ := other
    clear same other
    generalize hn : ks.length = n at *
    go_enter Try.func82, Try.ntmps82
    go_wp2
    go_loopg [13] n (fun g s13 wr => ∃ k : Nat, k ≤ n ∧ n - k ≤ g ∧ s13 = .int .i64 k ∧ Below w.heap.size w wr ∧ Hid (∀ i, i < k → ks.getD i 0 = ks'.getD i 0))
    case atStart => exact ⟨0, Nat.zero_le _, by omega, rfl, Below.refl _ _, fun i hi => by omega⟩
    case round =>
      obtain ⟨k, hk, hg, rfl, hb, A⟩ := hrel
      by_cases hlt : k < n
      · obtain ⟨b, o, rfl, g1⟩ := (h1.below hb) k (by omega)
        obtain ⟨b', o', rfl, g2⟩ := (h2.below hb) k (by omega)
        clear h1 h2
        by_cases he : ks.getD k 0 = ks'.getD k 0
        · have E : Hid (ks.getD k 0 = ks'.getD k 0) := he
          rw [← he] at g2
          clear he
          generalize ks.getD k 0 = y at g1 g2
          go_wp2_with fail
          go_region
          all_goals go_wp2
          all_goals go_roundg (n - (k + 1))
          case measure => omega
          case rel =>
            refine ⟨k + 1, by omega, by omega, by go_num, hb.drew, (show Hid _ from fun i hi => ?_)⟩
            by_cases e : i = k
            · subst e
              exact E.out
            · exact A.out i (by omega)
        · have Z := O.out k he
          generalize ks.getD k 0 = y at g1 he
          generalize ks'.getD k 0 = y' at g2 he
          go_wp2_with fail
          go_region
          all_goals go_wp2
          all_goals go_ret
          rw [Z]
          exact ⟨rfl, hb.drew⟩
      · clear h1 h2
        have : k = n := by omega
        subst this
        go_wp2
        go_ret
        rw [S.out A.out]
        exact ⟨rfl, hb⟩
  · have hd : decide (ks = ks') = false := decide_eq_false fun e => hl (by rw [e])
    have hl' : ¬ ((ks.length : Int) = (ks'.length : Int)) := by omega
    rw [hd]
    clear h1 h2 hd
    generalize ks.length = n at *
    generalize ks'.length = n' at *
    go_enter Try.func82, Try.ntmps82
    go_wp2
    go_ret
    exact ⟨rfl, Below.refl _ _⟩
end Go.Proofs.Ytfcpgabimedjmaa
