/-
  The contracts of slices.Index and slices.Contains at []int.
-/
import Derived.Test.YtplkfacaphejgaaURaSlSmBkBoLay
import Derived.BigQuiet
import Derived.Laws.StructEq
namespace Go.Proofs.Ytplkfacaphejgaa
open Go.RowKit

/-- Where v stands first, or -1. -/
def idx (ks : List Int) (v : Int) : Int := if v ∈ ks then (ks.idxOf v : Int) else -1

theorem idx_none {ks : List Int} {v : Int} (h : ∀ i, i < ks.length → ks.getD i 0 ≠ v) : idx ks v = -1 ∧ v ∉ ks := by
  have hn : v ∉ ks := fun hm => by
    obtain ⟨i, hi, e⟩ := List.getElem_of_mem hm
    exact h i hi (by rw [getD_elem ks 0 hi]; exact e)
  exact ⟨if_neg hn, hn⟩

theorem idxOf_first : ∀ (ks : List Int) (v : Int) (k : Nat), k < ks.length → ks.getD k 0 = v → (∀ i, i < k → ks.getD i 0 ≠ v) → ks.idxOf v = k
  | [], _, _, h, _, _ => by simp at h
  | x :: r, v, 0, _, h, _ => by
    have : x = v := by simpa using h
    rw [this]; simp
  | x :: r, v, k + 1, hk, h, hf => by
    have hx : x ≠ v := by simpa using hf 0 (by omega)
    have := idxOf_first r v k (by simpa using hk) (by simpa using h) (fun i hi => by simpa using hf (i + 1) (by omega))
    have hx1 : (x == v) = false := beq_eq_false_iff_ne.2 hx
    rw [List.idxOf_cons, this, hx1]
    rfl

theorem idx_some {ks : List Int} {v : Int} {k : Nat} (hk : k < ks.length) (h : ks.getD k 0 = v) (hf : ∀ i, i < k → ks.getD i 0 ≠ v) : idx ks v = k ∧ v ∈ ks := by
  have hm : v ∈ ks := by rw [← h, getD_elem ks 0 hk]; exact List.getElem_mem hk
  exact ⟨by unfold idx; rw [if_pos hm, idxOf_first ks v k hk h hf], hm⟩

set_option maxHeartbeats 400000 in
theorem index_any (a : Option Addr) (c : Nat) (ks : List Int) (v : Int) (w : World) (hbig : ks.length ≤ 9223372036854775807) (hks : IntsAt w a ks) :
    Calls Try.prog 55 #[.slice a ks.length c, .int .i64 v] w fun e w' => e = .returned (.int .i64 (idx ks v)) ∧ w' = w := by
  have N : Hid ((∀ i, i < ks.length → ks.getD i 0 ≠ v) → idx ks v = -1) := fun h => (idx_none h).1
  have Sm : Hid (∀ k, k < ks.length → ks.getD k 0 = v → (∀ i, i < k → ks.getD i 0 ≠ v) → idx ks v = k) := fun k h1 h2 h3 => (idx_some h1 h2 h3).1
  generalize idx ks v = r at *
  generalize hn : ks.length = n at *
  have HN : Hid (ks.length = n) := hn
  clear hn
  go_enter Try.func55, Try.ntmps55
  go_wp2
  go_loopg [8] n (fun g s8 wr => ∃ k : Nat, k ≤ n ∧ n - k ≤ g ∧ s8 = .int .i64 k ∧ wr = w ∧ Hid (∀ i, i < k → ks.getD i 0 ≠ v))
  case atStart => exact ⟨0, by omega, by omega, rfl, rfl, fun i hi => by omega⟩
  case round =>
    obtain ⟨k, hk, hg, rfl, rfl, A⟩ := hrel
    by_cases hlt : k < n
    · obtain ⟨b, o, rfl, hc⟩ := hks k (by rw [HN.out]; exact hlt)
      clear hks
      by_cases he : v = ks.getD k 0
      · have Z := Sm.out k hlt he.symm A.out
        subst Z
        rw [← he] at hc
        clear he
        go_wp2
        go_ret
        exact ⟨rfl, rfl⟩
      · have HE : Hid (ks.getD k 0 ≠ v) := fun e => he e.symm
        have h1 : (v == ks.getD k 0) = false := beq_eq_false_iff_ne.2 he
        generalize hy : ks.getD k 0 = y at *
        have HY : Hid _ := hy
        clear hy
        go_wp2
        go_roundg (n - (k + 1))
        case measure => omega
        case rel =>
          refine ⟨k + 1, by omega, by omega, by go_num, rfl, (show Hid _ from fun i hi => ?_)⟩
          by_cases e : i = k
          · rw [e, HY.out]; exact HE.out
          · exact A.out i (by omega)
    · have : k = n := by omega
      subst this
      have Z := N.out A.out
      subst Z
      clear hks
      go_wp2
      go_ret
      exact ⟨rfl, rfl⟩

theorem idx_nonneg (ks : List Int) (v : Int) : decide (0 ≤ idx ks v) = decide (v ∈ ks) := by
  unfold idx
  by_cases h : v ∈ ks
  · rw [if_pos h, decide_eq_true h, decide_eq_true (by omega)]
  · rw [if_neg h, decide_eq_false h, decide_eq_false (by omega)]

set_option maxHeartbeats 400000 in
theorem contains_any (a : Option Addr) (c : Nat) (ks : List Int) (v : Int) (w : World) (hbig : ks.length ≤ 9223372036854775807) (hks : IntsAt w a ks) :
    Calls Try.prog 35 #[.slice a ks.length c, .int .i64 v] w fun e w' => e = .returned (.bool (decide (v ∈ ks))) ∧ w' = w := by
  have h := index_any a c ks v w hbig hks
  rw [← idx_nonneg]
  clear hks
  generalize idx ks v = r at *
  generalize ks.length = n at *
  go_enter Try.func35, Try.ntmps35
  go_wp2_with (go_at_call 55; refine h.mono ?_; rintro e w' ⟨rfl, rfl⟩)
  go_ret
  exact ⟨rfl, rfl⟩

theorem IntsAt.take {w : World} {a : Option Addr} {ks : List Int} (h : IntsAt w a ks) (k : Nat) : IntsAt w a (ks.take k) := fun i hi => by
  rw [List.length_take] at hi
  obtain ⟨b, o, e, hc⟩ := h i (by omega)
  refine ⟨b, o, e, ?_⟩
  rw [hc, getD_elem ks 0 (by omega), getD_elem (ks.take k) 0 (by rw [List.length_take]; omega), List.getElem_take]

theorem law_low {w w1 : World} {a : Option Addr} {n c : Nat} {p u : Int} (hb : Below (w.heap.size + 1 + 1) ((w.alloc (.cells #[.slice a n c] 24)).alloc (.cells #[.int .i64 p, .int .i64 u] 27)) w1) :
    w1.cell? ⟨w.heap.size, 0, none⟩ = some (.slice a n c) ∧ w1.cell? ⟨w.heap.size + 1, 0, none⟩ = some (.int .i64 p) ∧ w1.cell? ⟨w.heap.size + 1, 1, none⟩ = some (.int .i64 u) :=
  ⟨(hb.cell (by simp; omega)).trans (by go_simp), (hb.cell (by simp)).trans (by go_simp), (hb.cell (by simp)).trans (by go_simp)⟩

theorem two_below (w : World) (o1 o2 : Obj) : Below w.heap.size w ((w.alloc o1).alloc o2) := ((Below.refl _ _).alloc (Nat.le_refl _) _).alloc (by simp) _

end Go.Proofs.Ytplkfacaphejgaa

namespace Go.Proofs.Ytplkfacaphejgaa
open Go.RowKit

def fitsB (S : List Nd) (ch pa : Nat) : Bool := decide ((nd S ch).h = -1) && (!decide ((pa : Int) = ch) && !underB S pa ch)

set_option maxHeartbeats 1000000 in
theorem fitsUnder_any (a : Option Addr) (c : Nat) (S : List Nd) (ch pa : Nat) (w : World) (hN : S.length ≤ 9223372036854775807) (hc : ch < S.length) (hS : NdsAt w a S) :
    Calls Try.prog 40 #[.agg #[.slice a S.length c], .int .i64 ch, .int .i64 pa] w fun e w' => e = .returned (.bool (fitsB S ch pa)) ∧ Below w.heap.size w w' := by
  unfold fitsB
  have du := fun (W : World) (hW : NdsAt W a S) => under_any a c S pa ch W hN hW
  have DU : Hid _ := du
  have HS : Hid (NdsAt w a S) := hS
  have hc2 : (ch : Int) < (S.length : Int) := by omega
  obtain ⟨b, o, rfl, c0, _, _, _, _, _, c6, _⟩ := hS ch hc
  have hbw := World.block_lt_of_cell? _ _ c0
  clear hS du
  generalize underB S pa ch = b3 at *
  generalize (nd S ch).h = hh at *
  generalize S.length = n at *
  by_cases h1 : hh = -1
  · subst h1
    by_cases h2 : (pa : Int) = ch
    · have e : decide ((pa : Int) = ch) = true := decide_eq_true h2
      have h3 : pa = ch := by omega
      subst h3
      rw [e]
      simp only [decide_true, Bool.not_true, Bool.false_and, Bool.and_false]
      go_enter Try.func40, Try.ntmps40
      go_wp2
      go_ret
      exact ⟨rfl, (Below.refl _ _).alloc (Nat.le_refl _) _⟩
    · have e : decide ((pa : Int) = ch) = false := decide_eq_false h2
      rw [e]
      have e1 : ((pa : Int) == (ch : Int)) = false := beq_eq_false_iff_ne.2 h2
      have e2 : ((pa : Int) != (ch : Int)) = true := by simp [bne, e1]
      have h2n : ¬ pa = ch := by omega
      simp only [decide_true, Bool.not_false, Bool.true_and]
      cases b3
      all_goals
        go_enter Try.func40, Try.ntmps40
        go_wp2_with (go_at_call 61; refine (DU.out _ (HS.out.below ((Below.refl _ _).alloc (Nat.le_refl _) _))).mono ?_; rintro e w1 ⟨rfl, hb1⟩)
        go_ret
        exact ⟨rfl, ((Below.refl _ _).alloc (Nat.le_refl _) _).trans (hb1.mono (by simp))⟩
  · have e : decide (hh = -1) = false := decide_eq_false h1
    have e1 : (hh == -1) = false := beq_eq_false_iff_ne.2 h1
    rw [e]
    simp only [Bool.false_and]
    go_enter Try.func40, Try.ntmps40
    go_wp2
    go_ret
    exact ⟨rfl, (Below.refl _ _).alloc (Nat.le_refl _) _⟩

set_option maxHeartbeats 1000000 in
theorem hasHand_any (ha : Option Addr) (hc : Nat) (hs : List (Int × Int)) (p u : Int) (w : World) (hL : hs.length ≤ 9223372036854775807) (hH : HandsAt w ha hs) :
    Calls Try.prog 63 #[.slice ha hs.length hc, .agg #[.int .i64 p, .int .i64 u]] w fun e w' => ∃ r : Int, e = .returned (.int .i64 r) ∧ Below w.heap.size w w' ∧ ((0 ≤ r) ↔ (p, u) ∈ hs) := by
  have HH : Hid (HandsAt w ha hs) := hH
  have IN : Hid (∀ k, k < hs.length → hs.getD k (0, 0) = (p, u) → (p, u) ∈ hs) := fun k hk h => by rw [← h, getD_elem hs _ hk]; exact List.getElem_mem hk
  have OUT : Hid ((∀ k, k < hs.length → hs.getD k (0, 0) ≠ (p, u)) → (p, u) ∉ hs) := fun h hm => by
    obtain ⟨i, hi, e⟩ := List.getElem_of_mem hm
    exact h i hi (by rw [getD_elem hs _ hi]; exact e)
  clear hH
  generalize hm : hs.length = m at *
  have HM : Hid _ := hm
  clear hm
  generalize ((p, u) ∈ hs) = Q at *
  go_enter Try.func63, Try.ntmps63
  go_wp2
  go_loopg [8] m (fun g s8 wr => ∃ k : Nat, k ≤ m ∧ m - k ≤ g ∧ s8 = .int .i64 k ∧ Below (w.heap.size + 1) (w.alloc (.cells #[.int .i64 p, .int .i64 u] 27)) wr ∧ Hid (∀ i, i < k → hs.getD i (0, 0) ≠ (p, u)))
  case atStart => exact ⟨0, by omega, by omega, rfl, Below.refl _ _, (show Hid _ from fun i hi => absurd hi (Nat.not_lt_zero _))⟩
  case round =>
    obtain ⟨k, hk, hg, rfl, hb, A⟩ := hrel
    have hB0 : Below w.heap.size w wr := ((Below.refl _ _).alloc (Nat.le_refl _) _).trans (hb.mono (by omega))
    have x0 : wr.cell? ⟨w.heap.size, 0, none⟩ = some (.int .i64 p) := (hb.cell (by simp)).trans (by go_simp)
    have x1 : wr.cell? ⟨w.heap.size, 1, none⟩ = some (.int .i64 u) := (hb.cell (by simp)).trans (by go_simp)
    by_cases hlt : k < m
    · have hlt2 : (k : Int) < (m : Int) := by omega
      obtain ⟨b, o, rfl, c0, c1⟩ := (HH.out.below hB0) k (by rw [HM.out]; exact hlt)
      generalize hy : hs.getD k (0, 0) = y at *
      obtain ⟨yp, yu⟩ := y
      dsimp only at c0 c1
      have HY : Hid _ := hy
      clear hy
      by_cases e1 : p = yp
      · by_cases e2 : u = yu
        · subst e1
          subst e2
          have Z : Hid _ := IN.out k hlt HY.out
          go_wp2_with fail
          go_quiet (fail)
          go_wp2
          go_ret
          exact ⟨k, rfl, Below.drewNs hB0 _, fun _ => Z.out, fun _ => by omega⟩
        · have e3 : (u == yu) = false := beq_eq_false_iff_ne.2 e2
          have NE : Hid ((yp, yu) ≠ (p, u)) := fun h => e2 (by cases h; rfl)
          subst e1
          go_wp2_with fail
          go_quiet (fail)
          go_wp2
          go_roundg (m - (k + 1))
          case measure => omega
          case rel =>
            refine ⟨k + 1, by omega, by omega, by go_num, Below.drewNs hb _, (show Hid _ from fun i hi => ?_)⟩
            by_cases e : i = k
            · rw [e, HY.out]; exact NE.out
            · exact A.out i (by omega)
      · have e3 : (p == yp) = false := beq_eq_false_iff_ne.2 e1
        have NE : Hid ((yp, yu) ≠ (p, u)) := fun h => e1 (by cases h; rfl)
        go_wp2_with fail
        go_quiet (fail)
        go_wp2
        go_roundg (m - (k + 1))
        case measure => omega
        case rel =>
          refine ⟨k + 1, by omega, by omega, by go_num, Below.drewNs hb _, (show Hid _ from fun i hi => ?_)⟩
          by_cases e : i = k
          · rw [e, HY.out]; exact NE.out
          · exact A.out i (by omega)
    · have : k = m := by omega
      subst this
      have Z : Hid _ := OUT.out A.out
      go_wp2
      go_ret
      exact ⟨-1, rfl, hB0, fun h => by omega, fun h => absurd h Z.out⟩
end Go.Proofs.Ytplkfacaphejgaa
