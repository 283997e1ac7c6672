/-
  Contracts of what Check asks of a node by itself.
-/
import Derived.Test.YtplkfacaphejgaaUSaBa
namespace Go.Proofs.Ytplkfacaphejgaa
open Go.RowKit

set_option maxHeartbeats 400000 in
theorem within_any (x a b : Int) (w : World) :
    Calls Try.prog 56 #[.int .i64 x, .int .i64 a, .int .i64 b] w fun e w' => e = .returned (.bool (decide (a ≤ x ∧ x ≤ b))) ∧ w' = w := by
  by_cases h1 : a ≤ x
  · by_cases h2 : x ≤ b
    · have h : decide (a ≤ x ∧ x ≤ b) = true := by simp [h1, h2]
      rw [h]
      clear h
      go_enter Try.func56, Try.ntmps56
      go_wp2
      go_ret
      exact ⟨rfl, rfl⟩
    · have h : decide (a ≤ x ∧ x ≤ b) = false := by simp [h2]
      rw [h]
      clear h
      go_enter Try.func56, Try.ntmps56
      go_wp2
      go_ret
      exact ⟨rfl, rfl⟩
  · have h : decide (a ≤ x ∧ x ≤ b) = false := by simp [h1]
    rw [h]
    clear h
    go_enter Try.func56, Try.ntmps56
    go_wp2
    go_ret
    exact ⟨rfl, rfl⟩

theorem within_yes (x a b : Int) (w : World) (h1 : a ≤ x) (h2 : x ≤ b) :
    Calls Try.prog 56 #[.int .i64 x, .int .i64 a, .int .i64 b] w fun e w' => e = .returned (.bool true) ∧ w' = w := by
  have h := within_any x a b w
  rwa [decide_eq_true (by exact ⟨h1, h2⟩)] at h

theorem within_no (x a b : Int) (w : World) (h1 : x < a ∨ b < x) :
    Calls Try.prog 56 #[.int .i64 x, .int .i64 a, .int .i64 b] w fun e w' => e = .returned (.bool false) ∧ w' = w := by
  have h := within_any x a b w
  rwa [decide_eq_false (by omega)] at h

set_option maxHeartbeats 400000 in
theorem unused_any (n : Int) (w : World) :
    Calls Try.prog 57 #[.int .i64 n] w fun e w' => e = .returned (.agg #[.bool false, .int .i64 n, .int .i64 0, .int .i64 0, .int .i64 (-1), .slice none 0 0, .int .i64 (-1), .bool false]) ∧ w' = w.alloc (.cells #[.bool false, .int .i64 n, .int .i64 0, .int .i64 0, .int .i64 (-1), .slice none 0 0, .int .i64 (-1), .bool false] 73) := by
  go_enter Try.func57, Try.ntmps57
  go_wp2
  exact bodyPost_ret (v := .agg #[.bool false, .int .i64 n, .int .i64 0, .int .i64 0, .int .i64 (-1), .slice none 0 0, .int .i64 (-1), .bool false]) (by simp [results, Try.results57, go_sem]) rfl ⟨rfl, rfl⟩

/-- A number that is a place of N, or -1. -/
def okPl (N x : Int) : Bool := decide (-1 ≤ x ∧ x ≤ N - 1)

set_option maxHeartbeats 400000 in
theorem wrong_any (x N : Int) (b : Nat) (w : World) (hc : w.cell? ⟨b, 0, none⟩ = some (.int .i64 N)) (hN : 0 ≤ N ∧ N ≤ 24) :
    Calls Try.prog 82 #[.int .i64 x, .pointer (some ⟨b, 0, none⟩)] w fun e w' => e = .returned (.bool (!okPl N x)) ∧ w' = w := by
  have hw := within_any x (-1) (N - 1)
  rw [show decide (-1 ≤ x ∧ x ≤ N - 1) = okPl N x from rfl] at hw
  generalize okPl N x = r at hw
  go_enter Try.func82, Try.ntmps82
  go_wp2_with (go_at_call 56; refine (hw _).mono ?_; rintro e w' ⟨rfl, rfl⟩)
  go_ret
  exact ⟨rfl, rfl⟩

def rangeB (x : Nd) : Bool := decide (0 ≤ x.n ∧ x.n ≤ 1000000) && (decide (0 ≤ x.t ∧ x.t ≤ 99) && decide (-1000000 ≤ x.m ∧ x.m ≤ 1000000))

set_option maxHeartbeats 800000 in
theorem inRange_any (x : Nd) (k : Value) (w : World) :
    Calls Try.prog 78 #[.agg #[.bool x.u, .int .i64 x.n, .int .i64 x.t, .int .i64 x.m, .int .i64 x.p, k, .int .i64 x.h, .bool x.c]] w fun e w' => e = .returned (.bool (rangeB x)) ∧ Below w.heap.size w w' := by
  unfold rangeB
  have d1 := within_any x.n 0 1000000
  have d2 := within_any x.t 0 99
  have d3 := within_any x.m (-1000000) 1000000
  generalize decide (0 ≤ x.n ∧ x.n ≤ 1000000) = b1 at *
  generalize decide (0 ≤ x.t ∧ x.t ≤ 99) = b2 at *
  generalize decide (-1000000 ≤ x.m ∧ x.m ≤ 1000000) = b3 at *
  cases b1
  rotate_left
  cases b2
  rotate_left
  cases b3
  all_goals
    go_enter Try.func78, Try.ntmps78
    go_wp2_with (first | (go_at_call_of 56 (Value.int .i64 x.n); refine (d1 _).mono ?_; rintro e w' ⟨rfl, rfl⟩) | (go_at_call_of 56 (Value.int .i64 x.t); refine (d2 _).mono ?_; rintro e w' ⟨rfl, rfl⟩) | (go_at_call_of 56 (Value.int .i64 x.m); refine (d3 _).mono ?_; rintro e w' ⟨rfl, rfl⟩))
    go_ret
    exact ⟨rfl, (Below.refl _ _).alloc (Nat.le_refl _) _⟩

def namesB (N : Int) (x : Nd) : Bool := okPl N x.p && (okPl N x.h && !(x.ks.any fun k => !okPl N k))

set_option maxHeartbeats 1600000 in
theorem namesPlaces_any (x : Nd) (ka : Option Addr) (kc : Nat) (N : Int) (w : World) (hN : 0 ≤ N ∧ N ≤ 24) (hbig : x.ks.length ≤ 9223372036854775807) (hks : IntsAt w ka x.ks) :
    Calls Try.prog 79 #[.agg #[.bool x.u, .int .i64 x.n, .int .i64 x.t, .int .i64 x.m, .int .i64 x.p, .slice ka x.ks.length kc, .int .i64 x.h, .bool x.c], .int .i64 N] w fun e w' => e = .returned (.bool (namesB N x)) ∧ Below w.heap.size w w' := by
  unfold namesB
  have d1 := wrong_any x.p N
  have d2 := wrong_any x.h N
  have hT : ∀ w1 : World, w1.cell? ⟨w.heap.size + 1, 0, none⟩ = some (.int .i64 N) → Tells 82 #[.pointer (some ⟨w.heap.size + 1, 0, none⟩)] (fun k => !okPl N k) w1 := fun w1 h1 y w2 hb2 =>
    (wrong_any y N (w.heap.size + 1) w2 ((hb2.cell (World.block_lt_of_cell? w1 _ h1)).trans h1) hN).mono (fun e w3 h => ⟨h.1, by rw [h.2]; exact Below.refl _ _⟩)
  have d3 := fun (W : World) (hk : IntsAt W ka x.ks) (hc : W.cell? ⟨w.heap.size + 1, 0, none⟩ = some (.int .i64 N)) => containsFunc_any 82 #[.pointer (some ⟨w.heap.size + 1, 0, none⟩)] (fun k => !okPl N k) ka kc x.ks W hbig hk (enters_of Try.func82 (by kernel_rfl) rfl) (hT W hc)
  have hk2 : ∀ o1 o2, IntsAt ((w.alloc o1).alloc o2) ka x.ks := fun o1 o2 => hks.below (((Below.refl _ _).alloc (Nat.le_refl _) _).alloc (by simp) _)
  have K2 : Hid _ := hk2
  clear hk2 hks hT
  generalize okPl N x.p = b1 at *
  generalize okPl N x.h = b2 at *
  generalize (x.ks.any fun k => !okPl N k) = b3 at *
  cases b1
  rotate_left
  cases b2
  rotate_left
  cases b3
  all_goals
    go_enter Try.func79, Try.ntmps79
    go_wp2_with (first | (go_at_call_of 82 (Value.int .i64 x.p); refine (d1 _ _ (by go_simp) hN).mono ?_; rintro e w' ⟨rfl, rfl⟩) | (go_at_call_of 82 (Value.int .i64 x.h); refine (d2 _ _ (by go_simp) hN).mono ?_; rintro e w' ⟨rfl, rfl⟩) | (go_at_call 83; refine (d3 _ (K2.out _ _) (by go_simp)).mono ?_; rintro e w' ⟨rfl, hb⟩))
  all_goals go_ret
  all_goals first
    | exact ⟨rfl, ((Below.refl _ _).alloc (Nat.le_refl _) _).alloc (by simp) _⟩
    | exact ⟨rfl, (((Below.refl _ _).alloc (Nat.le_refl _) _).alloc (by simp) _).trans (hb.mono (by simp; omega))⟩

set_option maxHeartbeats 800000 in
theorem equal_any (a a' : Option Addr) (c c' : Nat) (ks ks' : List Int) (w : World) (hbig : ks.length ≤ 9223372036854775807) (h1 : IntsAt w a ks) (h2 : IntsAt w a' ks') :
    Calls Try.prog 86 #[.slice a ks.length c, .slice a' ks'.length c'] w fun e w' => e = .returned (.bool (decide (ks = ks'))) ∧ Below w.heap.size w w' := by
  by_cases hl : ks.length = ks'.length
  · have same : (∀ i, i < ks.length → ks.getD i 0 = ks'.getD i 0) → decide (ks = ks') = true := fun H => by
      refine decide_eq_true (List.ext_getElem hl fun i hi hi' => ?_)
      have := H i hi
      rwa [getD_elem _ _ hi, getD_elem _ _ hi'] at this
    have other : ∀ i, ks.getD i 0 ≠ ks'.getD i 0 → decide (ks = ks') = false := fun i H => decide_eq_false fun e => H (by rw [e])
    rw [← hl]
    have S : Hid _ := same
    have O : Hid _ := other
    clear same other
    generalize hn : ks.length = n at *
    go_enter Try.func86, Try.ntmps86
    go_wp2
    go_loopg [13] n (fun g s13 wr => ∃ k : Nat, k ≤ n ∧ n - k ≤ g ∧ s13 = .int .i64 k ∧ Below w.heap.size w wr ∧ Hid (∀ i, i < k → ks.getD i 0 = ks'.getD i 0))
    case atStart => exact ⟨0, Nat.zero_le _, by omega, rfl, Below.refl _ _, fun i hi => by omega⟩
    case round =>
      obtain ⟨k, hk, hg, rfl, hb, A⟩ := hrel
      by_cases hlt : k < n
      · obtain ⟨b, o, rfl, g1⟩ := (h1.below hb) k (by omega)
        obtain ⟨b', o', rfl, g2⟩ := (h2.below hb) k (by omega)
        clear h1 h2
        by_cases he : ks.getD k 0 = ks'.getD k 0
        · have E : Hid (ks.getD k 0 = ks'.getD k 0) := he
          rw [← he] at g2
          clear he
          generalize ks.getD k 0 = y at g1 g2
          go_wp2_with fail
          go_region
          all_goals go_wp2
          all_goals go_roundg (n - (k + 1))
          case measure => omega
          case rel =>
            refine ⟨k + 1, by omega, by omega, by go_num, hb.drew, (show Hid _ from fun i hi => ?_)⟩
            by_cases e : i = k
            · subst e
              exact E.out
            · exact A.out i (by omega)
        · have Z := O.out k he
          generalize ks.getD k 0 = y at g1 he
          generalize ks'.getD k 0 = y' at g2 he
          go_wp2_with fail
          go_region
          all_goals go_wp2
          all_goals go_ret
          rw [Z]
          exact ⟨rfl, hb.drew⟩
      · clear h1 h2
        have : k = n := by omega
        subst this
        go_wp2
        go_ret
        rw [S.out A.out]
        exact ⟨rfl, hb⟩
  · have hd : decide (ks = ks') = false := decide_eq_false fun e => hl (by rw [e])
    have hl' : ¬ ((ks.length : Int) = (ks'.length : Int)) := by omega
    rw [hd]
    clear h1 h2 hd
    generalize ks.length = n at *
    generalize ks'.length = n' at *
    go_enter Try.func86, Try.ntmps86
    go_wp2
    go_ret
    exact ⟨rfl, Below.refl _ _⟩
end Go.Proofs.Ytplkfacaphejgaa

namespace Go.Proofs.Ytplkfacaphejgaa
open Go.RowKit

theorem same_low {w w1 : World} {u u' : Bool} {n n' t t' m m' p p' : Int} {k k' : Value} {h h' : Int} {c c' : Bool} (hb : Below (w.heap.size + 1 + 1) ((w.alloc (.cells #[.bool u, .int .i64 n, .int .i64 t, .int .i64 m, .int .i64 p, k, .int .i64 h, .bool c] 73)).alloc (.cells #[.bool u', .int .i64 n', .int .i64 t', .int .i64 m', .int .i64 p', k', .int .i64 h', .bool c'] 73)) w1) :
    w1.cell? ⟨w.heap.size, 6, none⟩ = some (.int .i64 h) ∧ w1.cell? ⟨w.heap.size, 7, none⟩ = some (.bool c) ∧ w1.cell? ⟨w.heap.size + 1, 6, none⟩ = some (.int .i64 h') ∧ w1.cell? ⟨w.heap.size + 1, 7, none⟩ = some (.bool c') :=
  ⟨(hb.cell (by simp; omega)).trans (by go_simp), (hb.cell (by simp; omega)).trans (by go_simp), (hb.cell (by simp)).trans (by go_simp), (hb.cell (by simp)).trans (by go_simp)⟩

set_option maxHeartbeats 4000000 in
theorem sameNode_any (u u' : Bool) (n n' t t' m m' p p' : Int) (ks ks' : List Int) (ka ka' : Option Addr) (kc kc' : Nat) (h h' : Int) (c c' : Bool) (w : World) (hbig : ks.length ≤ 9223372036854775807) (h1 : IntsAt w ka ks) (h2 : IntsAt w ka' ks') :
    Calls Try.prog 84 #[.agg #[.bool u, .int .i64 n, .int .i64 t, .int .i64 m, .int .i64 p, .slice ka ks.length kc, .int .i64 h, .bool c], .agg #[.bool u', .int .i64 n', .int .i64 t', .int .i64 m', .int .i64 p', .slice ka' ks'.length kc', .int .i64 h', .bool c']] w fun e w' => e = .returned (.bool (decide (u = u' ∧ n = n' ∧ t = t' ∧ m = m' ∧ p = p' ∧ ks = ks' ∧ h = h' ∧ c = c'))) ∧ Below w.heap.size w w' := by
  have hk := fun (W : World) (g1 : IntsAt W ka ks) (g2 : IntsAt W ka' ks') => equal_any ka ka' kc kc' ks ks' W hbig g1 g2
  have i1 : ∀ o1 o2, IntsAt ((w.alloc o1).alloc o2) ka ks := fun o1 o2 => h1.below (((Below.refl _ _).alloc (Nat.le_refl _) _).alloc (by simp) _)
  have i2 : ∀ o1 o2, IntsAt ((w.alloc o1).alloc o2) ka' ks' := fun o1 o2 => h2.below (((Below.refl _ _).alloc (Nat.le_refl _) _).alloc (by simp) _)
  have I1 : Hid _ := i1
  have I2 : Hid _ := i2
  clear i1 i2 h1 h2
  by_cases Eu : u = u'
  · subst Eu
    by_cases En : n = n'
    · subst En
      by_cases Et : t = t'
      · subst Et
        by_cases Em : m = m'
        · subst Em
          by_cases Ep : p = p'
          · subst Ep
            by_cases EK : ks = ks'
            · have ED : decide (ks = ks') = true := decide_eq_true EK
              rw [ED] at hk
              clear ED
              by_cases Eh : h = h'
              · subst Eh
                by_cases Ec : c = c'
                · subst Ec
                  have hs : decide (u = u ∧ n = n ∧ t = t ∧ m = m ∧ p = p ∧ ks = ks' ∧ h = h ∧ c = c) = true := by simp [EK]
                  rw [hs]
                  clear hs EK
                  go_enter Try.func84, Try.ntmps84
                  go_wp2_with (go_at_call 86; refine (hk _ (I1.out _ _) (I2.out _ _)).mono ?_; rintro e w' ⟨rfl, hb⟩; simp only [World.size_alloc] at hb; obtain ⟨l1, l2, l3, l4⟩ := same_low hb)
                  go_ret
                  first
                    | exact ⟨rfl, ((Below.refl _ _).alloc (Nat.le_refl _) _).alloc (by simp) _⟩
                    | exact ⟨rfl, (((Below.refl _ _).alloc (Nat.le_refl _) _).alloc (by simp) _).trans (hb.mono (by omega))⟩
                · have hs : decide (u = u ∧ n = n ∧ t = t ∧ m = m ∧ p = p ∧ ks = ks' ∧ h = h ∧ c = c') = false := by simp [Ec]
                  rw [hs]
                  clear hs EK
                  cases c <;> cases c' <;> first | exact absurd rfl Ec | skip
                  all_goals
                    go_enter Try.func84, Try.ntmps84
                    go_wp2_with (go_at_call 86; refine (hk _ (I1.out _ _) (I2.out _ _)).mono ?_; rintro e w' ⟨rfl, hb⟩; simp only [World.size_alloc] at hb; obtain ⟨l1, l2, l3, l4⟩ := same_low hb)
                    go_ret
                    first
                      | exact ⟨rfl, ((Below.refl _ _).alloc (Nat.le_refl _) _).alloc (by simp) _⟩
                      | exact ⟨rfl, (((Below.refl _ _).alloc (Nat.le_refl _) _).alloc (by simp) _).trans (hb.mono (by omega))⟩
              · have hs : decide (u = u ∧ n = n ∧ t = t ∧ m = m ∧ p = p ∧ ks = ks' ∧ h = h' ∧ c = c') = false := by simp [Eh]
                rw [hs]
                clear hs EK
                go_enter Try.func84, Try.ntmps84
                go_wp2_with (go_at_call 86; refine (hk _ (I1.out _ _) (I2.out _ _)).mono ?_; rintro e w' ⟨rfl, hb⟩; simp only [World.size_alloc] at hb; obtain ⟨l1, l2, l3, l4⟩ := same_low hb)
                go_ret
                first
                  | exact ⟨rfl, ((Below.refl _ _).alloc (Nat.le_refl _) _).alloc (by simp) _⟩
                  | exact ⟨rfl, (((Below.refl _ _).alloc (Nat.le_refl _) _).alloc (by simp) _).trans (hb.mono (by omega))⟩
            · have ED : decide (ks = ks') = false := decide_eq_false EK
              rw [ED] at hk
              have hs : decide (u = u ∧ n = n ∧ t = t ∧ m = m ∧ p = p ∧ ks = ks' ∧ h = h' ∧ c = c') = false := by simp [EK]
              rw [hs]
              clear hs EK ED
              go_enter Try.func84, Try.ntmps84
              go_wp2_with (go_at_call 86; refine (hk _ (I1.out _ _) (I2.out _ _)).mono ?_; rintro e w' ⟨rfl, hb⟩; simp only [World.size_alloc] at hb; obtain ⟨l1, l2, l3, l4⟩ := same_low hb)
              go_ret
              first
                | exact ⟨rfl, ((Below.refl _ _).alloc (Nat.le_refl _) _).alloc (by simp) _⟩
                | exact ⟨rfl, (((Below.refl _ _).alloc (Nat.le_refl _) _).alloc (by simp) _).trans (hb.mono (by omega))⟩
          · have hs : decide (u = u ∧ n = n ∧ t = t ∧ m = m ∧ p = p' ∧ ks = ks' ∧ h = h' ∧ c = c') = false := by simp [Ep]
            rw [hs]
            clear hs
            go_enter Try.func84, Try.ntmps84
            go_wp2_with (go_at_call 86; refine (hk _ (I1.out _ _) (I2.out _ _)).mono ?_; rintro e w' ⟨rfl, hb⟩; simp only [World.size_alloc] at hb; obtain ⟨l1, l2, l3, l4⟩ := same_low hb)
            go_ret
            first
              | exact ⟨rfl, ((Below.refl _ _).alloc (Nat.le_refl _) _).alloc (by simp) _⟩
              | exact ⟨rfl, (((Below.refl _ _).alloc (Nat.le_refl _) _).alloc (by simp) _).trans (hb.mono (by omega))⟩
        · have hs : decide (u = u ∧ n = n ∧ t = t ∧ m = m' ∧ p = p' ∧ ks = ks' ∧ h = h' ∧ c = c') = false := by simp [Em]
          rw [hs]
          clear hs
          go_enter Try.func84, Try.ntmps84
          go_wp2_with (go_at_call 86; refine (hk _ (I1.out _ _) (I2.out _ _)).mono ?_; rintro e w' ⟨rfl, hb⟩; simp only [World.size_alloc] at hb; obtain ⟨l1, l2, l3, l4⟩ := same_low hb)
          go_ret
          first
            | exact ⟨rfl, ((Below.refl _ _).alloc (Nat.le_refl _) _).alloc (by simp) _⟩
            | exact ⟨rfl, (((Below.refl _ _).alloc (Nat.le_refl _) _).alloc (by simp) _).trans (hb.mono (by omega))⟩
      · have hs : decide (u = u ∧ n = n ∧ t = t' ∧ m = m' ∧ p = p' ∧ ks = ks' ∧ h = h' ∧ c = c') = false := by simp [Et]
        rw [hs]
        clear hs
        go_enter Try.func84, Try.ntmps84
        go_wp2_with (go_at_call 86; refine (hk _ (I1.out _ _) (I2.out _ _)).mono ?_; rintro e w' ⟨rfl, hb⟩; simp only [World.size_alloc] at hb; obtain ⟨l1, l2, l3, l4⟩ := same_low hb)
        go_ret
        first
          | exact ⟨rfl, ((Below.refl _ _).alloc (Nat.le_refl _) _).alloc (by simp) _⟩
          | exact ⟨rfl, (((Below.refl _ _).alloc (Nat.le_refl _) _).alloc (by simp) _).trans (hb.mono (by omega))⟩
    · have hs : decide (u = u ∧ n = n' ∧ t = t' ∧ m = m' ∧ p = p' ∧ ks = ks' ∧ h = h' ∧ c = c') = false := by simp [En]
      rw [hs]
      clear hs
      go_enter Try.func84, Try.ntmps84
      go_wp2_with (go_at_call 86; refine (hk _ (I1.out _ _) (I2.out _ _)).mono ?_; rintro e w' ⟨rfl, hb⟩; simp only [World.size_alloc] at hb; obtain ⟨l1, l2, l3, l4⟩ := same_low hb)
      go_ret
      first
        | exact ⟨rfl, ((Below.refl _ _).alloc (Nat.le_refl _) _).alloc (by simp) _⟩
        | exact ⟨rfl, (((Below.refl _ _).alloc (Nat.le_refl _) _).alloc (by simp) _).trans (hb.mono (by omega))⟩
  · have hs : decide (u = u' ∧ n = n' ∧ t = t' ∧ m = m' ∧ p = p' ∧ ks = ks' ∧ h = h' ∧ c = c') = false := by simp [Eu]
    rw [hs]
    clear hs
    cases u <;> cases u' <;> first | exact absurd rfl Eu | skip
    all_goals
      go_enter Try.func84, Try.ntmps84
      go_wp2_with (go_at_call 86; refine (hk _ (I1.out _ _) (I2.out _ _)).mono ?_; rintro e w' ⟨rfl, hb⟩; simp only [World.size_alloc] at hb; obtain ⟨l1, l2, l3, l4⟩ := same_low hb)
      go_ret
      first
        | exact ⟨rfl, ((Below.refl _ _).alloc (Nat.le_refl _) _).alloc (by simp) _⟩
        | exact ⟨rfl, (((Below.refl _ _).alloc (Nat.le_refl _) _).alloc (by simp) _).trans (hb.mono (by omega))⟩

def formB (x : Nd) : Bool := if x.u then (if x.n = 0 then false else if x.h = -1 then !x.c else decide (x.p = -1)) else decide (x.t = 0 ∧ x.m = 0 ∧ x.p = -1 ∧ x.ks = [] ∧ x.h = -1 ∧ x.c = false)

theorem ints_nil (w : World) (a : Option Addr) : IntsAt w a [] := fun _ hi => absurd hi (Nat.not_lt_zero _)

theorem sameNode_unused (n n' t m p : Int) (ks : List Int) (ka : Option Addr) (kc : Nat) (h : Int) (c : Bool) (w : World) (hn : n' = n) (hbig : ks.length ≤ 9223372036854775807) (h1 : IntsAt w ka ks) :
    Calls Try.prog 84 #[.agg #[.bool false, .int .i64 n, .int .i64 t, .int .i64 m, .int .i64 p, .slice ka ks.length kc, .int .i64 h, .bool c], .agg #[.bool false, .int .i64 n', .int .i64 0, .int .i64 0, .int .i64 (-1), .slice none 0 0, .int .i64 (-1), .bool false]] w fun e w' => e = .returned (.bool (decide (t = 0 ∧ m = 0 ∧ p = -1 ∧ ks = [] ∧ h = -1 ∧ c = false))) ∧ Below w.heap.size w w' := by
  subst hn
  have H := sameNode_any false false n' n' t 0 m 0 p (-1) ks [] ka none kc 0 h (-1) c false w hbig h1 (ints_nil _ _)
  have e : decide (false = false ∧ n' = n' ∧ t = 0 ∧ m = 0 ∧ p = -1 ∧ ks = [] ∧ h = -1 ∧ c = false) = decide (t = 0 ∧ m = 0 ∧ p = -1 ∧ ks = [] ∧ h = -1 ∧ c = false) := by
    congr 1; simp
  rw [e] at H
  exact H
end Go.Proofs.Ytplkfacaphejgaa
