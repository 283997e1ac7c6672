/-
  The reference's HoldsOf.
-/
import Derived.Test.YtiekhgpnmcffiacJRaRd
import Derived.Test.YtiekhgpnmcffiacJRg
import Derived.Test.YtiekhgpnmcffiacJXd
namespace Go.Proofs.Ytiekhgpnmcffiac
open Go.RowKit

set_option maxHeartbeats 2000000 in
theorem rHolds_any (a : Option Addr) (c : Nat) (S : List Nd) (p u : Int) (w : World) (hN : S.length ≤ 9223372036854775807) (hS : NdsAt w a S) :
    Calls Try.prog 92 #[.agg #[.slice a S.length c], .agg #[.int .i64 p, .int .i64 u]] w fun e w' => e = .returned (.int .i64 (holdsE S p u)) ∧ Below w.heap.size w w' := by
  unfold holdsE
  have d1 := rin_any p 0 ((S.length : Int) - 1)
  rw [show decide (0 ≤ p ∧ p ≤ (S.length : Int) - 1) = isPl S.length p from rfl] at d1
  cases hq : isPl S.length p with
  | false =>
    rw [hq] at d1
    simp only [Bool.false_eq_true, if_false]
    generalize S.length = n at *
    clear hS
    go_enter Try.func92, Try.ntmps92
    go_wp2_with fail
    go_big_quiet ((go_at_call 108; exact Calls.quiet_of_same (d1 _)))
    go_wp2
    go_ret
    exact ⟨rfl, Below.drewNs (((Below.refl _ _).alloc (Nat.le_refl _) _).alloc (by simp) _) _⟩
  | true =>
    rw [hq] at d1
    simp only [if_true]
    have hq' : 0 ≤ p ∧ p ≤ (S.length : Int) - 1 := of_decide_eq_true hq
    clear hq
    obtain ⟨k, rfl⟩ : ∃ k : Nat, p = (k : Int) := ⟨p.toNat, by omega⟩
    have hk : k < S.length := by omega
    have hk2 : (k : Int) < (S.length : Int) := by omega
    simp only [Int.toNat_natCast]
    obtain ⟨b, o, rfl, c0, c1, c2, c3, c4, ⟨ka, kc, c5, _⟩, c6, c7⟩ := hS k hk
    have hbw : b < w.heap.size := World.block_lt_of_cell? w ⟨b, o + k * 8, none⟩ c0
    clear hS hq'
    generalize nd S k = x at *
    unfold holdX
    obtain ⟨xu, xn, xt, xm, xp, xks, xh, xc⟩ := x
    dsimp only at *
    generalize xks.length = kl at *
    generalize S.length = n at *
    have d2 := rin_any u 1 xn
    generalize hb1 : decide (1 ≤ u ∧ u ≤ xn) = b1 at *
    cases b1 with
    | false =>
      clear hb1
      simp only [Bool.false_eq_true, if_false]
      go_enter Try.func92, Try.ntmps92
      go_wp2_with fail
      go_big_quiet ((first | (go_at_call_of 108 (Value.int .i64 0); exact Calls.quiet_of_same (d1 _)) | (go_at_call_of 108 (Value.int .i64 1); exact Calls.quiet_of_same (d2 _))))
      go_wp2
      go_ret
      exact ⟨rfl, Below.drewNs (((Below.refl _ _).alloc (Nat.le_refl _) _).alloc (by simp) _) _⟩
    | true =>
      have hb2 : 1 ≤ u ∧ u ≤ xn := of_decide_eq_true hb1
      clear hb1
      simp only [if_true]
      cases xu with
      | false =>
        simp only [Bool.false_eq_true, if_false]
        go_enter Try.func92, Try.ntmps92
        go_wp2_with fail
        go_big_quiet ((first | (go_at_call_of 108 (Value.int .i64 0); exact Calls.quiet_of_same (d1 _)) | (go_at_call_of 108 (Value.int .i64 1); exact Calls.quiet_of_same (d2 _))))
        go_wp2
        go_big_quiet (fail)
        go_wp2
        go_ret
        exact ⟨rfl, Below.drewNs (Below.drewNs (((Below.refl _ _).alloc (Nat.le_refl _) _).alloc (by simp) _) _) _⟩
      | true =>
        simp only [if_true]
        by_cases he : xn = u
        · subst he
          simp only [if_true]
          have hlt : decide (xn < xn) = false := decide_eq_false (by omega)
          go_enter Try.func92, Try.ntmps92
          go_wp2_with fail
          go_big_quiet ((first | (go_at_call_of 108 (Value.int .i64 0); exact Calls.quiet_of_same (d1 _)) | (go_at_call_of 108 (Value.int .i64 1); exact Calls.quiet_of_same (d2 _))))
          go_wp2
          go_big_quiet (fail)
          go_wp2
          go_ret
          exact ⟨rfl, Below.drewNs (Below.drewNs (((Below.refl _ _).alloc (Nat.le_refl _) _).alloc (by simp) _) _) _⟩
        · simp only [if_neg he]
          have hlt : decide (u < xn) = true := decide_eq_true (by omega)
          go_enter Try.func92, Try.ntmps92
          go_wp2_with fail
          go_big_quiet ((first | (go_at_call_of 108 (Value.int .i64 0); exact Calls.quiet_of_same (d1 _)) | (go_at_call_of 108 (Value.int .i64 1); exact Calls.quiet_of_same (d2 _))))
          go_wp2
          go_big_quiet (fail)
          go_wp2
          go_ret
          exact ⟨rfl, Below.drewNs (Below.drewNs (((Below.refl _ _).alloc (Nat.le_refl _) _).alloc (by simp) _) _) _⟩
end Go.Proofs.Ytiekhgpnmcffiac

namespace Go.Proofs.Ytiekhgpnmcffiac
open Go.RowKit

/-- What is asked of the reference's Check (its contract: rCheck_few, rCheck_many). -/
def RChk (a : Option Addr) (c : Nat) (S : List Nd) : Prop := ∀ W, NdsAt W a S → Calls Try.prog 91 #[.agg #[.slice a S.length c]] W fun e w' => e = .returned (.int .i64 (checkE S)) ∧ Below W.heap.size W w'

def restE (S : List Nd) (e : Int) (l : List (Int × Int)) : Int := if e = 0 then handsE S l else e

set_option maxHeartbeats 2000000 in
theorem rFirst_any (a : Option Addr) (c : Nat) (S : List Nd) (ha : Option Addr) (hc : Nat) (hs : List (Int × Int)) (w : World) (hN : S.length ≤ 9223372036854775807) (hC : RChk a c S) (hS : NdsAt w a S) (hL : hs.length ≤ 9223372036854775807) (hH : HandsAt w ha hs) :
    Calls Try.prog 52 #[.agg #[.slice a S.length c], .slice ha hs.length hc] w fun e w' => e = .returned (.int .i64 (tcheckE S hs)) ∧ Below w.heap.size w w' := by
  have dc : Hid _ := hC
  have dh := fun (p u : Int) (W : World) (hW : NdsAt W a S) => rHolds_any a c S p u W hN hW
  have DH : Hid _ := dh
  have HS : Hid (NdsAt w a S) := hS
  have HH : Hid (HandsAt w ha hs) := hH
  have R0 : Hid (tcheckE S hs = restE S (checkE S) (hs.drop 0)) := (rfl : tcheckE S hs = restE S (checkE S) (hs.drop 0))
  clear hS hH dh hC
  unfold RChk at dc
  generalize tcheckE S hs = RES at *
  generalize checkE S = E0 at *
  generalize hn : S.length = n at *
  generalize hm : hs.length = m at *
  have HM : Hid (hs.length = m) := hm
  clear hm hn
  go_enter Try.func52, Try.ntmps52
  go_wp2_with (go_at_call 91; refine (dc.out _ (HS.out.below ((Below.refl _ _).alloc (Nat.le_refl _) _))).mono ?_; rintro e w1 ⟨rfl, hb1⟩)
  have lb : w1.cell? ⟨w.heap.size, 0, none⟩ = some (.slice a n c) := store_low (by simpa using hb1)
  have hB1 : Below w.heap.size w w1 := ((Below.refl _ _).alloc (Nat.le_refl _) _).trans (hb1.mono (by simp))
  clear hb1 dc
  go_loopg [5, 12] m (fun g s5 s12 wr => ∃ (k : Nat) (ev : Int), k ≤ m ∧ m - k ≤ g ∧ s5 = .int .i64 ev ∧ s12 = .int .i64 k ∧ Below w.heap.size w wr ∧ wr.cell? ⟨w.heap.size, 0, none⟩ = some (.slice a n c) ∧ Hid (RES = restE S ev (hs.drop k)))
  case atStart => exact ⟨0, E0, by omega, by omega, rfl, rfl, hB1, lb, R0⟩
  case round =>
    obtain ⟨k, ev, hk, hg, rfl, rfl, hb, lb2, A⟩ := hrel
    have hlb := World.block_lt_of_cell? _ _ lb2
    clear lb hB1 R0
    by_cases hlt : k < m
    · obtain ⟨b, o, rfl, c0, c1⟩ := (HH.out.below hb) k (by rw [HM.out]; exact hlt)
      have hbw := World.block_lt_of_cell? _ _ c0
      have EQ := A.out
      rw [drop_cons (d := (0, 0)) (by rw [HM.out]; exact hlt)] at EQ
      simp only [restE, handsE] at EQ
      generalize (hs.getD k (0, 0)).1 = p at *
      generalize (hs.getD k (0, 0)).2 = u at *
      have d1 := fun W hW => DH.out p u W hW
      have HB : Hid (∀ o1, NdsAt (wr.alloc o1) a S) := fun o1 => (HS.out.below hb).below ((Below.refl _ _).alloc (Nat.le_refl _) _)
      generalize holdsE S p u = hv at *
      by_cases hz : ev = 0
      · subst hz
        rw [if_pos rfl] at EQ
        have E2 : Hid (RES = restE S hv (hs.drop (k + 1))) := EQ
        clear EQ
        go_wp2_with (go_at_call 92; refine (d1 _ (HB.out _)).mono ?_; rintro e w2 ⟨rfl, hb2⟩)
        go_roundg (m - (k + 1))
        case measure => omega
        case rel =>
          have hb3 : Below wr.heap.size wr w2 := ((Below.refl _ _).alloc (Nat.le_refl _) _).trans (hb2.mono (by simp))
          exact ⟨k + 1, hv, by omega, by omega, rfl, by go_num, hb.trans (hb3.mono hb.size), (hb3.cell hlb).trans lb2, E2⟩
      · rw [if_neg hz] at EQ
        have hz2 : (ev == 0) = false := by simp [hz]
        have E2 : Hid (RES = restE S ev (hs.drop (k + 1))) := (by rw [EQ, restE, if_neg hz] : RES = restE S ev (hs.drop (k + 1)))
        clear EQ
        go_wp2_with fail
        go_roundg (m - (k + 1))
        case measure => omega
        case rel =>
          have hb3 : Below wr.heap.size wr (wr.alloc (.cells #[.int .i64 p, .int .i64 u] 26)) := ((Below.refl wr.heap.size wr).alloc (Nat.le_refl _) _)
          exact ⟨k + 1, ev, by omega, by omega, rfl, by go_num, hb.trans (hb3.mono hb.size), (hb3.cell hlb).trans lb2, E2⟩
    · have : k = m := by omega
      subst this
      have EQ := A.out
      rw [← HM.out, List.drop_length] at EQ
      have E2 : RES = ev := by
        rw [EQ, restE]
        split
        · next h => rw [h]; rfl
        · rfl
      subst E2
      clear EQ A
      go_wp2
      go_ret
      exact ⟨rfl, hb⟩
end Go.Proofs.Ytiekhgpnmcffiac
