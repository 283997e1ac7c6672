/-
  The reference's small functions: in, RightUnder, HoldsOf.
-/
import Derived.Test.YtjlapfgghljidaaUSkSl
import Derived.BigQuiet
import Derived.Test.YtjlapfgghljidaaURg
import Derived.Test.YtjlapfgghljidaaUXaXd
import Derived.Test.YtjlapfgghljidaaUTdTeSo
import Derived.Test.YtjlapfgghljidaaUSaSbScBa
namespace Go.Proofs.Ytjlapfgghljidaa
open Go.RowKit

theorem rin_any (x a b : Int) (w : World) :
    Calls Try.prog 46 #[.int .i64 x, .int .i64 a, .int .i64 b] w fun e w' => e = .returned (.bool (decide (a ≤ x ∧ x ≤ b))) ∧ w' = w := by
  by_cases h1 : a ≤ x
  · by_cases h2 : x ≤ b
    · rw [decide_eq_true ⟨h1, h2⟩]
      go_enter Try.func46, Try.ntmps46
      go_wp2
      go_ret
      exact ⟨rfl, rfl⟩
    · rw [decide_eq_false (fun h => h2 h.2)]
      have h3 : decide (x ≤ b) = false := decide_eq_false h2
      go_enter Try.func46, Try.ntmps46
      go_wp2
      go_ret
      exact ⟨rfl, rfl⟩
  · rw [decide_eq_false (fun h => h1 h.1)]
    have h3 : decide (a ≤ x) = false := decide_eq_false h1
    go_enter Try.func46, Try.ntmps46
    go_wp2
    go_ret
    exact ⟨rfl, rfl⟩

set_option maxHeartbeats 400000 in
theorem rRightUnder_any (x : Nd) (k : Value) (w : World) :
    Calls Try.prog 48 #[.agg #[.bool x.u, .int .i64 x.n, .int .i64 x.t, .int .i64 x.m, .int .i64 x.p, k, .int .i64 x.h, .bool x.c]] w fun e w' => e = .returned (.int .i64 (if x.h = -1 then x.p else x.h)) ∧ Below w.heap.size w w' := by
  obtain ⟨u, n, t, m, p, ks, h, c⟩ := x
  dsimp only
  by_cases e : h = -1
  · subst e
    simp only [if_true]
    go_enter Try.func48, Try.ntmps48
    go_wp2
    go_ret
    exact ⟨rfl, (Below.refl _ _).alloc (Nat.le_refl _) _⟩
  · simp only [if_neg e]
    have e2 : (h == -1) = false := beq_eq_false_iff_ne.2 e
    go_enter Try.func48, Try.ntmps48
    go_wp2
    go_ret
    exact ⟨rfl, (Below.refl _ _).alloc (Nat.le_refl _) _⟩
end Go.Proofs.Ytjlapfgghljidaa

namespace Go.Proofs.Ytjlapfgghljidaa
open Go.RowKit

set_option maxHeartbeats 2000000 in
theorem rHolds_any (a : Option Addr) (c : Nat) (S : List Nd) (p u : Int) (w : World) (hN : S.length ≤ 9223372036854775807) (hS : NdsAt w a S) :
    Calls Try.prog 22 #[.agg #[.slice a S.length c], .agg #[.int .i64 p, .int .i64 u]] w fun e w' => e = .returned (.int .i64 (holdsE S p u)) ∧ Below w.heap.size w w' := by
  unfold holdsE
  have d1 := rin_any p 0 ((S.length : Int) - 1)
  rw [show decide (0 ≤ p ∧ p ≤ (S.length : Int) - 1) = isPl S.length p from rfl] at d1
  cases hq : isPl S.length p with
  | false =>
    rw [hq] at d1
    simp only [Bool.false_eq_true, if_false]
    generalize S.length = n at *
    clear hS
    go_enter Try.func22, Try.ntmps22
    go_wp2_with fail
    go_big_quiet ((go_at_call 46; exact Calls.quiet_of_same (d1 _)))
    go_wp2
    go_ret
    exact ⟨rfl, Below.drewNs (((Below.refl _ _).alloc (Nat.le_refl _) _).alloc (by simp) _) _⟩
  | true =>
    rw [hq] at d1
    simp only [if_true]
    have hq' : 0 ≤ p ∧ p ≤ (S.length : Int) - 1 := of_decide_eq_true hq
    clear hq
    obtain ⟨k, rfl⟩ : ∃ k : Nat, p = (k : Int) := ⟨p.toNat, by omega⟩
    have hk : k < S.length := by omega
    have hk2 : (k : Int) < (S.length : Int) := by omega
    simp only [Int.toNat_natCast]
    obtain ⟨b, o, rfl, c0, c1, c2, c3, c4, ⟨ka, kc, c5, _⟩, c6, c7⟩ := hS k hk
    have hbw : b < w.heap.size := World.block_lt_of_cell? w ⟨b, o + k * 8, none⟩ c0
    clear hS hq'
    generalize nd S k = x at *
    unfold holdX
    obtain ⟨xu, xn, xt, xm, xp, xks, xh, xc⟩ := x
    dsimp only at *
    generalize xks.length = kl at *
    generalize S.length = n at *
    have d2 := rin_any u 1 xn
    generalize hb1 : decide (1 ≤ u ∧ u ≤ xn) = b1 at *
    cases b1 with
    | false =>
      clear hb1
      simp only [Bool.false_eq_true, if_false]
      go_enter Try.func22, Try.ntmps22
      go_wp2_with fail
      go_big_quiet ((first | (go_at_call_of 46 (Value.int .i64 0); exact Calls.quiet_of_same (d1 _)) | (go_at_call_of 46 (Value.int .i64 1); exact Calls.quiet_of_same (d2 _))))
      go_wp2
      go_ret
      exact ⟨rfl, Below.drewNs (((Below.refl _ _).alloc (Nat.le_refl _) _).alloc (by simp) _) _⟩
    | true =>
      have hb2 : 1 ≤ u ∧ u ≤ xn := of_decide_eq_true hb1
      clear hb1
      simp only [if_true]
      cases xu with
      | false =>
        simp only [Bool.false_eq_true, if_false]
        go_enter Try.func22, Try.ntmps22
        go_wp2_with fail
        go_big_quiet ((first | (go_at_call_of 46 (Value.int .i64 0); exact Calls.quiet_of_same (d1 _)) | (go_at_call_of 46 (Value.int .i64 1); exact Calls.quiet_of_same (d2 _))))
        go_wp2
        go_big_quiet (fail)
        go_wp2
        go_ret
        exact ⟨rfl, Below.drewNs (Below.drewNs (((Below.refl _ _).alloc (Nat.le_refl _) _).alloc (by simp) _) _) _⟩
      | true =>
        simp only [if_true]
        by_cases he : xn = u
        · subst he
          simp only [if_true]
          have hlt : decide (xn < xn) = false := decide_eq_false (by omega)
          go_enter Try.func22, Try.ntmps22
          go_wp2_with fail
          go_big_quiet ((first | (go_at_call_of 46 (Value.int .i64 0); exact Calls.quiet_of_same (d1 _)) | (go_at_call_of 46 (Value.int .i64 1); exact Calls.quiet_of_same (d2 _))))
          go_wp2
          go_big_quiet (fail)
          go_wp2
          go_ret
          exact ⟨rfl, Below.drewNs (Below.drewNs (((Below.refl _ _).alloc (Nat.le_refl _) _).alloc (by simp) _) _) _⟩
        · simp only [if_neg he]
          have hlt : decide (u < xn) = true := decide_eq_true (by omega)
          go_enter Try.func22, Try.ntmps22
          go_wp2_with fail
          go_big_quiet ((first | (go_at_call_of 46 (Value.int .i64 0); exact Calls.quiet_of_same (d1 _)) | (go_at_call_of 46 (Value.int .i64 1); exact Calls.quiet_of_same (d2 _))))
          go_wp2
          go_big_quiet (fail)
          go_wp2
          go_ret
          exact ⟨rfl, Below.drewNs (Below.drewNs (((Below.refl _ _).alloc (Nat.le_refl _) _).alloc (by simp) _) _) _⟩
end Go.Proofs.Ytjlapfgghljidaa

namespace Go.Proofs.Ytjlapfgghljidaa
open Go.RowKit

/-- What is asked of the reference's Check (its contract: rCheck_few, rCheck_many). -/
def RChk (a : Option Addr) (c : Nat) (S : List Nd) : Prop := ∀ W, NdsAt W a S → Calls Try.prog 16 #[.agg #[.slice a S.length c]] W fun e w' => e = .returned (.int .i64 (checkE S)) ∧ Below W.heap.size W w'

def restE (S : List Nd) (e : Int) (l : List (Int × Int)) : Int := if e = 0 then handsE S l else e

set_option maxHeartbeats 2000000 in
theorem rFirst_any (a : Option Addr) (c : Nat) (S : List Nd) (ha : Option Addr) (hc : Nat) (hs : List (Int × Int)) (w : World) (hN : S.length ≤ 9223372036854775807) (hC : RChk a c S) (hS : NdsAt w a S) (hL : hs.length ≤ 9223372036854775807) (hH : HandsAt w ha hs) :
    Calls Try.prog 47 #[.agg #[.slice a S.length c], .slice ha hs.length hc] w fun e w' => e = .returned (.int .i64 (tcheckE S hs)) ∧ Below w.heap.size w w' := by
  have dc : Hid _ := hC
  have dh := fun (p u : Int) (W : World) (hW : NdsAt W a S) => rHolds_any a c S p u W hN hW
  have DH : Hid _ := dh
  have HS : Hid (NdsAt w a S) := hS
  have HH : Hid (HandsAt w ha hs) := hH
  have R0 : Hid (tcheckE S hs = restE S (checkE S) (hs.drop 0)) := (rfl : tcheckE S hs = restE S (checkE S) (hs.drop 0))
  clear hS hH dh hC
  unfold RChk at dc
  generalize tcheckE S hs = RES at *
  generalize checkE S = E0 at *
  generalize hn : S.length = n at *
  generalize hm : hs.length = m at *
  have HM : Hid (hs.length = m) := hm
  clear hm hn
  go_enter Try.func47, Try.ntmps47
  go_wp2_with (go_at_call 16; refine (dc.out _ (HS.out.below ((Below.refl _ _).alloc (Nat.le_refl _) _))).mono ?_; rintro e w1 ⟨rfl, hb1⟩)
  have lb : w1.cell? ⟨w.heap.size, 0, none⟩ = some (.slice a n c) := store_low (by simpa using hb1)
  have hB1 : Below w.heap.size w w1 := ((Below.refl _ _).alloc (Nat.le_refl _) _).trans (hb1.mono (by simp))
  clear hb1 dc
  go_loopg [5, 12] m (fun g s5 s12 wr => ∃ (k : Nat) (ev : Int), k ≤ m ∧ m - k ≤ g ∧ s5 = .int .i64 ev ∧ s12 = .int .i64 k ∧ Below w.heap.size w wr ∧ wr.cell? ⟨w.heap.size, 0, none⟩ = some (.slice a n c) ∧ Hid (RES = restE S ev (hs.drop k)))
  case atStart => exact ⟨0, E0, by omega, by omega, rfl, rfl, hB1, lb, R0⟩
  case round =>
    obtain ⟨k, ev, hk, hg, rfl, rfl, hb, lb2, A⟩ := hrel
    have hlb := World.block_lt_of_cell? _ _ lb2
    clear lb hB1 R0
    by_cases hlt : k < m
    · obtain ⟨b, o, rfl, c0, c1⟩ := (HH.out.below hb) k (by rw [HM.out]; exact hlt)
      have hbw := World.block_lt_of_cell? _ _ c0
      have EQ := A.out
      rw [drop_cons (d := (0, 0)) (by rw [HM.out]; exact hlt)] at EQ
      simp only [restE, handsE] at EQ
      generalize (hs.getD k (0, 0)).1 = p at *
      generalize (hs.getD k (0, 0)).2 = u at *
      have d1 := fun W hW => DH.out p u W hW
      have HB : Hid (∀ o1, NdsAt (wr.alloc o1) a S) := fun o1 => (HS.out.below hb).below ((Below.refl _ _).alloc (Nat.le_refl _) _)
      generalize holdsE S p u = hv at *
      by_cases hz : ev = 0
      · subst hz
        rw [if_pos rfl] at EQ
        have E2 : Hid (RES = restE S hv (hs.drop (k + 1))) := EQ
        clear EQ
        go_wp2_with (go_at_call 22; refine (d1 _ (HB.out _)).mono ?_; rintro e w2 ⟨rfl, hb2⟩)
        go_roundg (m - (k + 1))
        case measure => omega
        case rel =>
          have hb3 : Below wr.heap.size wr w2 := ((Below.refl _ _).alloc (Nat.le_refl _) _).trans (hb2.mono (by simp))
          exact ⟨k + 1, hv, by omega, by omega, rfl, by go_num, hb.trans (hb3.mono hb.size), (hb3.cell hlb).trans lb2, E2⟩
      · rw [if_neg hz] at EQ
        have hz2 : (ev == 0) = false := by simp [hz]
        have E2 : Hid (RES = restE S ev (hs.drop (k + 1))) := (by rw [EQ, restE, if_neg hz] : RES = restE S ev (hs.drop (k + 1)))
        clear EQ
        go_wp2_with fail
        go_roundg (m - (k + 1))
        case measure => omega
        case rel =>
          have hb3 : Below wr.heap.size wr (wr.alloc (.cells #[.int .i64 p, .int .i64 u] 26)) := ((Below.refl wr.heap.size wr).alloc (Nat.le_refl _) _)
          exact ⟨k + 1, ev, by omega, by omega, rfl, by go_num, hb.trans (hb3.mono hb.size), (hb3.cell hlb).trans lb2, E2⟩
    · have : k = m := by omega
      subst this
      have EQ := A.out
      rw [← HM.out, List.drop_length] at EQ
      have E2 : RES = ev := by
        rw [EQ, restE]
        split
        · next h => rw [h]; rfl
        · rfl
      subst E2
      clear EQ A
      go_wp2
      go_ret
      exact ⟨rfl, hb⟩
end Go.Proofs.Ytjlapfgghljidaa

namespace Go.Proofs.Ytjlapfgghljidaa
open Go.RowKit

/-- Behind OwnStore, in a function with three boxes: the row, and what is known of the boxes. -/
theorem own_after {w w1 w2 : World} {a : Option Addr} {c n : Nat} {S : List Nd} {K : Nat → Value} {v : Value} (h0 : 0 < n) (hb1 : Below (w.heap.size + 1 + 1 + 1) (((w.alloc (.cells #[.slice a n c] 24)).alloc (.cells #[.slice none 0 0] 24)).alloc (.cells #[.int .i64 0, .int .i64 0] 26)) w1) (hb2 : Below w1.heap.size w1 w2) (hown : OwnK w1.heap.size S n K v w2) :
    ∃ g cap, v = .slice (some ⟨g, 0, none⟩) n cap ∧ w.heap.size + 3 ≤ g ∧ g < w2.heap.size ∧ n ≤ cap ∧ cap ≤ 9223372036854775807 ∧ OwnK (w.heap.size + 3) S n K (.slice (some ⟨g, 0, none⟩) n cap) (w2.setCell ⟨w.heap.size, 0, none⟩ (.slice (some ⟨g, 0, none⟩) n cap)) ∧
    Below w.heap.size w (w2.setCell ⟨w.heap.size, 0, none⟩ (.slice (some ⟨g, 0, none⟩) n cap)) ∧ (w2.cell? ⟨w.heap.size, 0, none⟩ = some (.slice a n c) ∧ w2.frozen? ⟨w.heap.size, 0, none⟩ = false) ∧
    w2.cell? ⟨w.heap.size + 1, 0, none⟩ = some (.slice none 0 0) ∧ w2.cell? ⟨w.heap.size + 1 + 1, 0, none⟩ = some (.int .i64 0) ∧ w2.cell? ⟨w.heap.size + 1 + 1, 1, none⟩ = some (.int .i64 0) ∧
    w2.frozen? ⟨w.heap.size + 1, 0, none⟩ = false ∧ w2.frozen? ⟨w.heap.size + 1 + 1, 0, none⟩ = false ∧ w2.frozen? ⟨w.heap.size + 1 + 1, 1, none⟩ = false := by
  have hs1 := hb1.size
  simp only [World.size_alloc] at hs1
  have hb3 : Below (w.heap.size + 1 + 1 + 1) _ w2 := hb1.trans (hb2.mono (by omega))
  obtain ⟨l0, l1, l2, l3, z1, z2, z3⟩ := make_low hb3
  have z0 : w2.frozen? ⟨w.heap.size, 0, none⟩ = false := (hb3.frozen (by simp; omega)).trans (by go_simp)
  have hm := hown.1
  obtain ⟨g, cap, rfl, h1, h2, h3, h4⟩ : ∃ g cap, v = .slice (some ⟨g, 0, none⟩) n cap ∧ w1.heap.size ≤ g ∧ g < w2.heap.size ∧ n ≤ cap ∧ cap ≤ 9223372036854775807 := by
    have hl := hm.lt
    rcases hm.2 with ⟨_, h⟩ | ⟨g, cap, cur, h, h1, _, h3, h4, _⟩
    · omega
    · subst h
      exact ⟨g, cap, rfl, h1, (hl g rfl).2, h3, by unfold maxLen at h4; omega⟩
  refine ⟨g, cap, rfl, by omega, h2, h3, h4, ?_, ?_, ⟨l0, z0⟩, l1, l2, l3, z1, z2, z3⟩
  · have ho : OwnK (w.heap.size + 3) S n K (.slice (some ⟨g, 0, none⟩) n cap) w2 := ⟨ownsRow_baseL hown.1 (by omega), fun i hi => ownsRow_baseL (hown.2 i hi) (by omega)⟩
    exact ho.other (fun b hb _ => Below.heap_setCell _ _ _ _ (by simp; omega))
  · exact ((three_below _ _ _ _).trans (hb3.mono (by omega))).setCell (by simp) _

theorem cell_else {W : World} {g o1 b o : Nat} {u v : Value} (hb : b ≠ g) (h : W.cell? ⟨b, o, none⟩ = some v) : (W.setCell ⟨g, o1, none⟩ u).cell? ⟨b, o, none⟩ = some v :=
  (World.cell?_of_block (Below.heap_setCell _ _ _ _ hb)).trans h
theorem frozen_else {W : World} {a b : Addr} {u : Value} (h : W.frozen? b = false) : (W.setCell a u).frozen? b = false := by
  rw [World.frozen?_setCell]; exact h

set_option maxHeartbeats 2000000 in
theorem rMade_own (a : Option Addr) (c : Nat) (S : List Nd) (t : Int) (w : World) (hC : RChk a c S) (hS : NdsAt w a S) (hN : S.length ≤ 24) (hK : ∀ i, i < S.length → (nd S i).ks.length ≤ 1000) (hE : checkE S = 0) (ht0 : 0 ≤ t) (ht1 : t ≤ 99) (k : Nat) (hk : k < S.length) (hfr : freeB (nd S k) = true) (h0 : ∀ i, i < S.length → 0 ≤ (nd S i).n ∧ (nd S i).n ≤ 1000000) (hall : ∀ i, i < k → freeB (nd S i) = false) :
    Calls Try.prog 14 #[.agg #[.slice a S.length c], .int .i64 t] w fun e w' => ∃ g cap K, e = .returned (.tuple #[.agg #[.slice (some ⟨g, 0, none⟩) S.length cap], .agg #[.int .i64 k, .int .i64 ((nd S k).n + 1)], .int .i64 0]) ∧ Below w.heap.size w w' ∧ OwnK (w.heap.size + 3) (S.set k (madeNd (nd S k) t)) S.length K (.slice (some ⟨g, 0, none⟩) S.length cap) w' := by
  have dc : Hid _ := hC
  unfold RChk at dc
  rw [hE] at dc
  have DO : Hid (∀ W, NdsAt W a S → Calls _ _ _ _ _) := fun W hW => rOwn_any a c S W (by omega) (fun i hi => by have := hK i hi; omega) hW
  have HS : Hid (NdsAt w a S) := hS
  clear hS hC
  generalize hn : S.length = n at *
  have HN : Hid (S.length = n) := hn
  clear hn
  go_enter Try.func14, Try.ntmps14
  go_wp2_with (go_at_call 16; refine (dc.out _ (HS.out.below (three_below _ _ _ _))).mono ?_; rintro e w1 ⟨rfl, hb1⟩; simp only [World.size_alloc] at hb1; obtain ⟨l0, l1, l2, l3, z1, z2, z3⟩ := make_low hb1; have hB1 : Below w.heap.size w w1 := (three_below _ _ _ _).trans (hb1.mono (by omega)))
  have dt : decide (0 ≤ t ∧ t ≤ 99) = true := decide_eq_true ⟨ht0, ht1⟩
  have din := fun W => rin_any t 0 99 W
  rw [dt] at din
  have hs1 := hb1.size
  simp only [World.size_alloc] at hs1
  go_wp2_with (first
    | (go_at_call 46; refine (din _).mono ?_; rintro e w1' ⟨rfl, rfl⟩)
    | (go_at_call 9; refine (DO.out _ (HS.out.below hB1)).mono ?_; rintro e w2 ⟨v, K, rfl, hb2, hown⟩; obtain ⟨g, cap, rfl, hg, hg2, hcap, hcm, hO, hB3, ⟨m0, y0⟩, m1, m2, m3, y1, y2, y3⟩ := own_after (by omega) hb1 hb2 hown; have HO : Hid _ := hO; have HB3 : Hid _ := hB3; clear hown hb2 hO hB3 l0 l1 l2 l3 z1 z2 z3))
  have HALL : Hid _ := hall
  have HR : Hid _ := h0
  clear hall h0 din dt dc DO HS hb1 hB1 hs1 hK
  go_loopg [27] (k + 1) (fun gg s27 wr => ∃ q : Nat, q ≤ k ∧ k - q < gg ∧ s27 = .int .i64 q ∧ wr.cell? ⟨w.heap.size, 0, none⟩ = some (.slice (some ⟨g, 0, none⟩) n cap) ∧ wr.cell? ⟨w.heap.size + 1, 0, none⟩ = some (.slice none 0 0) ∧ wr.cell? ⟨w.heap.size + 1 + 1, 0, none⟩ = some (.int .i64 0) ∧ wr.cell? ⟨w.heap.size + 1 + 1, 1, none⟩ = some (.int .i64 0) ∧ wr.frozen? ⟨w.heap.size + 1, 0, none⟩ = false ∧ wr.frozen? ⟨w.heap.size + 1 + 1, 0, none⟩ = false ∧ wr.frozen? ⟨w.heap.size + 1 + 1, 1, none⟩ = false ∧ Hid (OwnK (w.heap.size + 3) S n K (.slice (some ⟨g, 0, none⟩) n cap) wr) ∧ Hid (Below w.heap.size w wr))
  case atStart =>
    refine ⟨0, by omega, by omega, rfl, World.cell?_setCell_same _ _ _ m0, ?_, ?_, ?_, ?_, ?_, ?_, HO, HB3⟩
    all_goals first
      | (rw [World.cell?_setCell_other _ _ _ _ (by simp)]; assumption)
      | (rw [World.frozen?_setCell]; assumption)
  case round =>
    clear HO HB3 m0 y0 m1 m2 m3 y1 y2 y3
    obtain ⟨q, hq, hgg, rfl, m0, m1, m2, m3, y1, y2, y3, HO, HB⟩ := hrel
    have hqn : q < n := by omega
    have hqn2 : (q : Int) < (n : Int) := by omega
    have r0 : wr.cell? ⟨g, q * 8, none⟩ = some (.bool (nd S q).u) := HO.out.cellAt (i := q) (j := 0) hqn (by omega)
    have r1 : wr.cell? ⟨g, q * 8 + 1, none⟩ = some (.int .i64 (nd S q).n) := HO.out.cellAt (i := q) (j := 1) hqn (by omega)
    by_cases hqk : q < k
    · have hfq := HALL.out q hqk
      have hrq := HR.out q hqn
      unfold freeB at hfq
      generalize (nd S q).u = xu at *
      generalize (nd S q).n = xn at *
      cases xu with
      | true =>
        go_wp2
        go_roundg (k - q)
        case measure => omega
        case rel => exact ⟨q + 1, by omega, by omega, by go_num, m0, m1, m2, m3, y1, y2, y3, HO, HB⟩
      | false =>
        have hx : xn = 1000000 := by
          simp at hfq
          omega
        subst hx
        go_wp2
        go_roundg (k - q)
        case measure => omega
        case rel => exact ⟨q + 1, by omega, by omega, by go_num, m0, m1, m2, m3, y1, y2, y3, HO, HB⟩
    · have hqe : q = k := by omega
      subst hqe
      have r2 : wr.cell? ⟨g, q * 8 + 2, none⟩ = some (.int .i64 (nd S q).t) := HO.out.cellAt (i := q) (j := 2) hqn (by omega)
      have f0 := HO.out.frozenAt (q * 8)
      have f1 := HO.out.frozenAt (q * 8 + 1)
      have f2 := HO.out.frozenAt (q * 8 + 2)
      have hrq := HR.out q hqn
      have hu : (nd S q).u = false := by unfold freeB at hfr; simp at hfr; exact hfr.1
      have hn1 : (nd S q).n < 1000000 := by unfold freeB at hfr; simp at hfr; exact hfr.2
      rw [hu] at r0
      have hbg : w.heap.size ≠ g := by omega
      have hbg1 : w.heap.size + 1 ≠ g := by omega
      have hbg2 : w.heap.size + 1 + 1 ≠ g := by omega
      have hn2 : ((nd S q).n == 1000000) = false := by simp; omega
      have PUT : Hid (OwnK (w.heap.size + 3) (S.set q (madeNd (nd S q) t)) n K (.slice (some ⟨g, 0, none⟩) n cap) (((wr.setCell ⟨g, q * 8 + 1, none⟩ (.int .i64 ((nd S q).n + 1))).setCell ⟨g, q * 8, none⟩ (.bool true)).setCell ⟨g, q * 8 + 2, none⟩ (.int .i64 t))) := by
        have p1 := HO.out.put1 (k := q) (j := 1) (u := .int .i64 ((nd S q).n + 1)) hqn HN.out (by omega) ⟨(nd S q).u, (nd S q).n + 1, (nd S q).t, (nd S q).m, (nd S q).p, (nd S q).ks, (nd S q).h, (nd S q).c⟩ (fun v j' hj' => by
          match j', hj' with
          | 0, _ | 1, _ | 2, _ | 3, _ | 4, _ | 5, _ | 6, _ | 7, _ => rfl) rfl
        have p2 := p1.put1 (k := q) (j := 0) (u := .bool true) hqn (by rw [List.length_set]; exact HN.out) (by omega) ⟨true, (nd S q).n + 1, (nd S q).t, (nd S q).m, (nd S q).p, (nd S q).ks, (nd S q).h, (nd S q).c⟩ (fun v j' hj' => by
          rw [nd_set S q q _ (by rw [HN.out]; exact hqn), if_pos rfl]
          match j', hj' with
          | 0, _ | 1, _ | 2, _ | 3, _ | 4, _ | 5, _ | 6, _ | 7, _ => rfl) (by rw [nd_set S q q _ (by rw [HN.out]; exact hqn), if_pos rfl])
        have p3 := p2.put1 (k := q) (j := 2) (u := .int .i64 t) hqn (by rw [List.length_set, List.length_set]; exact HN.out) (by omega) ⟨true, (nd S q).n + 1, t, (nd S q).m, (nd S q).p, (nd S q).ks, (nd S q).h, (nd S q).c⟩ (fun v j' hj' => by
          rw [nd_set _ q q _ (by rw [List.length_set, HN.out]; exact hqn), if_pos rfl]
          match j', hj' with
          | 0, _ | 1, _ | 2, _ | 3, _ | 4, _ | 5, _ | 6, _ | 7, _ => rfl) (by rw [nd_set _ q q _ (by rw [List.length_set, HN.out]; exact hqn), if_pos rfl])
        rw [List.set_set, List.set_set] at p3
        exact p3
      generalize hxn : (nd S q).n = xn at *
      have HXN : Hid _ := hxn
      clear hxn
      generalize (nd S q).t = xt at *
      go_wp2
      obtain ⟨W3, hW3⟩ : ∃ W3, (((wr.setCell ⟨g, q * 8 + 1, none⟩ (.int .i64 (xn + 1))).setCell ⟨g, q * 8, none⟩ (.bool true)).setCell ⟨g, q * 8 + 2, none⟩ (.int .i64 t)) = W3 := ⟨_, rfl⟩
      have HB4 : Hid (Below w.heap.size w W3) := by
        rw [← hW3]
        exact ((HB.out.setCell (by simp; omega) _).setCell (by simp; omega) _).setCell (by simp; omega) _
      have s0 : W3.cell? ⟨w.heap.size, 0, none⟩ = some (.slice (some ⟨g, 0, none⟩) n cap) := by rw [← hW3]; exact cell_else hbg (cell_else hbg (cell_else hbg m0))
      have s1 : W3.cell? ⟨w.heap.size + 1, 0, none⟩ = some (.slice none 0 0) := by rw [← hW3]; exact cell_else hbg1 (cell_else hbg1 (cell_else hbg1 m1))
      have s2 : W3.cell? ⟨w.heap.size + 1 + 1, 0, none⟩ = some (.int .i64 0) := by rw [← hW3]; exact cell_else hbg2 (cell_else hbg2 (cell_else hbg2 m2))
      have s3 : W3.cell? ⟨w.heap.size + 1 + 1, 1, none⟩ = some (.int .i64 0) := by rw [← hW3]; exact cell_else hbg2 (cell_else hbg2 (cell_else hbg2 m3))
      have s4 : W3.cell? ⟨g, q * 8 + 1, none⟩ = some (.int .i64 (xn + 1)) := by rw [← hW3, World.cell?_setCell_other _ _ _ _ (by simp), World.cell?_setCell_other _ _ _ _ (by simp)]; exact World.cell?_setCell_same _ _ _ r1
      have v1 : W3.frozen? ⟨w.heap.size + 1, 0, none⟩ = false := by rw [← hW3]; exact frozen_else (frozen_else (frozen_else y1))
      have v2 : W3.frozen? ⟨w.heap.size + 1 + 1, 0, none⟩ = false := by rw [← hW3]; exact frozen_else (frozen_else (frozen_else y2))
      have v3 : W3.frozen? ⟨w.heap.size + 1 + 1, 1, none⟩ = false := by rw [← hW3]; exact frozen_else (frozen_else (frozen_else y3))
      rw [hW3] at PUT ⊢
      clear hW3 HB m0 m1 m2 m3 y1 y2 y3 r0 r1 r2 f0 f1 f2 HO
      go_region
      all_goals (try go_wp2)
      have hlow : ∀ b, w.heap.size + 3 ≤ b → ((((W3.setCell ⟨w.heap.size + 1, 0, none⟩ (.slice (some ⟨g, 0, none⟩) n cap)).setCell ⟨w.heap.size + 1 + 1, 0, none⟩ (.int .i64 q)).setCell ⟨w.heap.size + 1 + 1, 1, none⟩ (.int .i64 (xn + 1)))).heap[b]? = W3.heap[b]? := fun b hb =>
        (Below.heap_setCell _ _ _ _ (by simp; omega)).trans ((Below.heap_setCell _ _ _ _ (by simp; omega)).trans (Below.heap_setCell _ _ _ _ (by simp; omega)))
      refine bodyPost_ret (v := .tuple #[.agg #[.slice (some ⟨g, 0, none⟩) n cap], .agg #[.int .i64 q, .int .i64 (xn + 1)], .int .i64 0]) (by simp [results, Try.results14, go_sem, s1, s2, s3]) rfl ⟨g, cap, K, by rw [HXN.out], ?_, ?_⟩
      · first
          | exact (((HB4.out.setCell (by simp) _).setCell (by simp; omega) _).setCell (by simp; omega) _).drew
          | exact ((HB4.out.setCell (by simp) _).setCell (by simp; omega) _).setCell (by simp; omega) _
      · exact PUT.out.other (fun b hb _ => hlow b hb)


theorem rMade_ok (a : Option Addr) (c : Nat) (S : List Nd) (t : Int) (w : World) (hC : RChk a c S) (hS : NdsAt w a S) (hN : S.length ≤ 24) (hK : ∀ i, i < S.length → (nd S i).ks.length ≤ 1000) (hE : checkE S = 0) (ht0 : 0 ≤ t) (ht1 : t ≤ 99) (k : Nat) (hk : k < S.length) (hfr : freeB (nd S k) = true) (h0 : ∀ i, i < S.length → 0 ≤ (nd S i).n ∧ (nd S i).n ≤ 1000000) (hall : ∀ i, i < k → freeB (nd S i) = false) :
    Calls Try.prog 14 #[.agg #[.slice a S.length c], .int .i64 t] w fun e w' => ∃ a' c', e = .returned (.tuple #[.agg #[.slice a' S.length c'], .agg #[.int .i64 k, .int .i64 ((nd S k).n + 1)], .int .i64 0]) ∧ Below w.heap.size w w' ∧ NdsAt w' a' (S.set k (madeNd (nd S k) t)) :=
  (rMade_own a c S t w hC hS hN hK hE ht0 ht1 k hk hfr h0 hall).mono (fun e w' ⟨g, cap, K, e1, hb, ho⟩ => ⟨some ⟨g, 0, none⟩, cap, e1, hb, ho.ndsAt (by rw [List.length_set])⟩)
end Go.Proofs.Ytjlapfgghljidaa


