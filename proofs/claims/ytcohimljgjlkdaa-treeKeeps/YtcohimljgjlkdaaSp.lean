/-
  The contracts of slices.Index and slices.Contains at []int.
-/
import Derived.Test.YtcohimljgjlkdaaSm
namespace Go.Proofs.Ytcohimljgjlkdaa
open Go.RowKit

/-- Where v stands first, or -1. -/
def idx (ks : List Int) (v : Int) : Int := if v ∈ ks then (ks.idxOf v : Int) else -1

theorem idx_none {ks : List Int} {v : Int} (h : ∀ i, i < ks.length → ks.getD i 0 ≠ v) : idx ks v = -1 ∧ v ∉ ks := by
  have hn : v ∉ ks := fun hm => by
    obtain ⟨i, hi, e⟩ := List.getElem_of_mem hm
    exact h i hi (by rw [getD_elem ks 0 hi]; exact e)
  exact ⟨if_neg hn, hn⟩

theorem idxOf_first : ∀ (ks : List Int) (v : Int) (k : Nat), k < ks.length → ks.getD k 0 = v → (∀ i, i < k → ks.getD i 0 ≠ v) → ks.idxOf v = k
  | [], _, _, h, _, _ => by simp at h
  | x :: r, v, 0, _, h, _ => by
    have : x = v := by simpa using h
    rw [this]; simp
  | x :: r, v, k + 1, hk, h, hf => by
    have hx : x ≠ v := by simpa using hf 0 (by omega)
    have := idxOf_first r v k (by simpa using hk) (by simpa using h) (fun i hi => by simpa using hf (i + 1) (by omega))
    have hx1 : (x == v) = false := beq_eq_false_iff_ne.2 hx
    rw [List.idxOf_cons, this, hx1]
    rfl

theorem idx_some {ks : List Int} {v : Int} {k : Nat} (hk : k < ks.length) (h : ks.getD k 0 = v) (hf : ∀ i, i < k → ks.getD i 0 ≠ v) : idx ks v = k ∧ v ∈ ks := by
  have hm : v ∈ ks := by rw [← h, getD_elem ks 0 hk]; exact List.getElem_mem hk
  exact ⟨by unfold idx; rw [if_pos hm, idxOf_first ks v k hk h hf], hm⟩

set_option maxHeartbeats 400000 in
theorem index_any (a : Option Addr) (c : Nat) (ks : List Int) (v : Int) (w : World) (hbig : ks.length ≤ 9223372036854775807) (hks : IntsAt w a ks) :
    Calls Try.prog 33 #[.slice a ks.length c, .int .i64 v] w fun e w' => e = .returned (.int .i64 (idx ks v)) ∧ w' = w := by
  have N : Hid ((∀ i, i < ks.length → ks.getD i 0 ≠ v) → idx ks v = -1) := fun h => (idx_none h).1
  have Sm : Hid (∀ k, k < ks.length → ks.getD k 0 = v → (∀ i, i < k → ks.getD i 0 ≠ v) → idx ks v = k) := fun k h1 h2 h3 => (idx_some h1 h2 h3).1
  generalize idx ks v = r at *
  generalize hn : ks.length = n at *
  have HN : Hid (ks.length = n) := hn
  clear hn
  go_enter Try.func33, Try.ntmps33
  go_wp2
  go_loopg [8] n (fun g s8 wr => ∃ k : Nat, k ≤ n ∧ n - k ≤ g ∧ s8 = .int .i64 k ∧ wr = w ∧ Hid (∀ i, i < k → ks.getD i 0 ≠ v))
  case atStart => exact ⟨0, by omega, by omega, rfl, rfl, fun i hi => by omega⟩
  case round =>
    obtain ⟨k, hk, hg, rfl, rfl, A⟩ := hrel
    by_cases hlt : k < n
    · obtain ⟨b, o, rfl, hc⟩ := hks k (by rw [HN.out]; exact hlt)
      clear hks
      by_cases he : v = ks.getD k 0
      · have Z := Sm.out k hlt he.symm A.out
        subst Z
        rw [← he] at hc
        clear he
        go_wp2
        go_ret
        exact ⟨rfl, rfl⟩
      · have HE : Hid (ks.getD k 0 ≠ v) := fun e => he e.symm
        have h1 : (v == ks.getD k 0) = false := beq_eq_false_iff_ne.2 he
        generalize hy : ks.getD k 0 = y at *
        have HY : Hid _ := hy
        clear hy
        go_wp2
        go_roundg (n - (k + 1))
        case measure => omega
        case rel =>
          refine ⟨k + 1, by omega, by omega, by go_num, rfl, (show Hid _ from fun i hi => ?_)⟩
          by_cases e : i = k
          · rw [e, HY.out]; exact HE.out
          · exact A.out i (by omega)
    · have : k = n := by omega
      subst this
      have Z := N.out A.out
      subst Z
      clear hks
      go_wp2
      go_ret
      exact ⟨rfl, rfl⟩

theorem idx_nonneg (ks : List Int) (v : Int) : decide (0 ≤ idx ks v) = decide (v ∈ ks) := by
  unfold idx
  by_cases h : v ∈ ks
  · rw [if_pos h, decide_eq_true h, decide_eq_true (by omega)]
  · rw [if_neg h, decide_eq_false h, decide_eq_false (by omega)]

set_option maxHeartbeats 400000 in
theorem contains_any (a : Option Addr) (c : Nat) (ks : List Int) (v : Int) (w : World) (hbig : ks.length ≤ 9223372036854775807) (hks : IntsAt w a ks) :
    Calls Try.prog 62 #[.slice a ks.length c, .int .i64 v] w fun e w' => e = .returned (.bool (decide (v ∈ ks))) ∧ w' = w := by
  have h := index_any a c ks v w hbig hks
  rw [← idx_nonneg]
  clear hks
  generalize idx ks v = r at *
  generalize ks.length = n at *
  go_enter Try.func62, Try.ntmps62
  go_wp2_with (go_at_call 33; refine h.mono ?_; rintro e w' ⟨rfl, rfl⟩)
  go_ret
  exact ⟨rfl, rfl⟩

theorem IntsAt.take {w : World} {a : Option Addr} {ks : List Int} (h : IntsAt w a ks) (k : Nat) : IntsAt w a (ks.take k) := fun i hi => by
  rw [List.length_take] at hi
  obtain ⟨b, o, e, hc⟩ := h i (by omega)
  refine ⟨b, o, e, ?_⟩
  rw [hc, getD_elem ks 0 (by omega), getD_elem (ks.take k) 0 (by rw [List.length_take]; omega), List.getElem_take]

/-- The closed fact of the laws on trees, as it is met. -/
def GrownOk : Prop := ∀ w : World, Calls Try.prog 32 #[] w fun e w' => e = .returned (.bool true) ∧ Below w.heap.size w w'

theorem law_low {w w1 : World} {a : Option Addr} {n c : Nat} {p u : Int} (hb : Below (w.heap.size + 1 + 1) ((w.alloc (.cells #[.slice a n c] 29)).alloc (.cells #[.int .i64 p, .int .i64 u] 31)) w1) :
    w1.cell? ⟨w.heap.size, 0, none⟩ = some (.slice a n c) ∧ w1.cell? ⟨w.heap.size + 1, 0, none⟩ = some (.int .i64 p) ∧ w1.cell? ⟨w.heap.size + 1, 1, none⟩ = some (.int .i64 u) :=
  ⟨(hb.cell (by simp; omega)).trans (by go_simp), (hb.cell (by simp)).trans (by go_simp), (hb.cell (by simp)).trans (by go_simp)⟩

theorem two_below (w : World) (o1 o2 : Obj) : Below w.heap.size w ((w.alloc o1).alloc o2) := ((Below.refl _ _).alloc (Nat.le_refl _) _).alloc (by simp) _

end Go.Proofs.Ytcohimljgjlkdaa
