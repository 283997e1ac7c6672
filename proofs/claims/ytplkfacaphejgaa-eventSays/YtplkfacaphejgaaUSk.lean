/-
  The contracts of Holds and of tree.check: a store, and hands on its nodes.
-/
import Derived.Test.YtplkfacaphejgaaUSiSj
namespace Go.Proofs.Ytplkfacaphejgaa
open Go.RowKit

def holdX (x : Nd) (u : Int) : Int := if decide (1 ≤ u ∧ u ≤ x.n) then (if x.u then (if x.n = u then 0 else 5) else 5) else 4
def holdsE (S : List Nd) (p u : Int) : Int := if isPl S.length p then holdX (nd S p.toNat) u else 4

theorem holds_low {w w1 : World} {v : Value} {p u : Int} (hb : Below (w.heap.size + 1 + 1) ((w.alloc (.cells #[v] 24)).alloc (.cells #[.int .i64 p, .int .i64 u] 27)) w1) :
    w1.cell? ⟨w.heap.size, 0, none⟩ = some v ∧ w1.cell? ⟨w.heap.size + 1, 0, none⟩ = some (.int .i64 p) ∧ w1.cell? ⟨w.heap.size + 1, 1, none⟩ = some (.int .i64 u) ∧ Below w.heap.size w w1 :=
  ⟨(hb.cell (by simp; omega)).trans (by go_simp), (hb.cell (by simp)).trans (by go_simp), (hb.cell (by simp)).trans (by go_simp), (((Below.refl _ _).alloc (Nat.le_refl _) _).alloc (by simp) _).trans (hb.mono (by omega))⟩

set_option maxHeartbeats 2000000 in
theorem holds_any (a : Option Addr) (c : Nat) (S : List Nd) (p u : Int) (w : World) (hN : S.length ≤ 9223372036854775807) (hS : NdsAt w a S) :
    Calls Try.prog 46 #[.agg #[.slice a S.length c], .agg #[.int .i64 p, .int .i64 u]] w fun e w' => e = .returned (.int .i64 (holdsE S p u)) ∧ Below w.heap.size w w' := by
  unfold holdsE
  have d1 := fun W => isPlace_any a c S.length p W hN
  cases hq : isPl S.length p with
  | false =>
    rw [hq] at d1
    simp only [Bool.false_eq_true, if_false]
    generalize S.length = n at *
    clear hS
    go_enter Try.func46, Try.ntmps46
    go_wp2_with (go_at_call 48; refine (d1 _).mono ?_; rintro e w' ⟨rfl, hb⟩)
    go_ret
    simp only [World.size_alloc] at hb
    exact ⟨rfl, (holds_low hb).2.2.2⟩
  | true =>
    rw [hq] at d1
    simp only [if_true]
    have hq' : 0 ≤ p ∧ p ≤ (S.length : Int) - 1 := of_decide_eq_true hq
    clear hq
    obtain ⟨k, rfl⟩ : ∃ k : Nat, p = (k : Int) := ⟨p.toNat, by omega⟩
    have hk : k < S.length := by omega
    have hk2 : (k : Int) < (S.length : Int) := by omega
    simp only [Int.toNat_natCast]
    obtain ⟨b, o, rfl, hnd⟩ := hS k hk
    have NX : Hid (∀ w1, Below w.heap.size w w1 → NdAt w1 b (o + k * 8) (nd S k)) := fun w1 h1 => hnd.below h1
    clear hS hq' hnd
    generalize nd S k = x at *
    unfold holdX
    obtain ⟨xu, xn, xt, xm, xp, xks, xh, xc⟩ := x
    unfold NdAt at NX
    dsimp only at *
    generalize xks.length = kl at *
    generalize S.length = n at *
    have d2 := within_any u 1 xn
    generalize hb1 : decide (1 ≤ u ∧ u ≤ xn) = b1 at *
    have B1 : Hid (decide (1 ≤ u ∧ u ≤ xn) = b1) := hb1
    clear hb1
    cases b1 with
    | false =>
      simp only [Bool.false_eq_true, if_false]
      go_enter Try.func46, Try.ntmps46
      go_wp2_with (first | (go_at_call 48; refine (d1 _).mono ?_; rintro e w1 ⟨rfl, hb⟩; simp only [World.size_alloc] at hb; obtain ⟨l0, l1, l2, l3⟩ := holds_low hb; obtain ⟨c0, c1, c2, c3, c4, ⟨ka, kc, c5, _⟩, c6, c7⟩ := NX.out _ l3; have hbw := World.block_lt_of_cell? w1 _ c0; have hbl := World.block_lt_of_cell? w1 _ l1; have hbm := World.block_lt_of_cell? w1 _ l0; have HB : Hid _ := l3; clear hb l3) | (go_at_call 56; refine (d2 _).mono ?_; rintro e w' ⟨rfl, rfl⟩))
      go_ret
      exact ⟨rfl, HB.out.alloc HB.out.size _⟩
    | true =>
      simp only [if_true]
      cases xu with
      | false =>
        simp only [Bool.false_eq_true, if_false]
        go_enter Try.func46, Try.ntmps46
        go_wp2_with (first | (go_at_call 48; refine (d1 _).mono ?_; rintro e w1 ⟨rfl, hb⟩; simp only [World.size_alloc] at hb; obtain ⟨l0, l1, l2, l3⟩ := holds_low hb; obtain ⟨c0, c1, c2, c3, c4, ⟨ka, kc, c5, _⟩, c6, c7⟩ := NX.out _ l3; have hbw := World.block_lt_of_cell? w1 _ c0; have hbl := World.block_lt_of_cell? w1 _ l1; have hbm := World.block_lt_of_cell? w1 _ l0; have HB : Hid _ := l3; clear hb l3) | (go_at_call 56; refine (d2 _).mono ?_; rintro e w' ⟨rfl, rfl⟩))
        go_ret
        exact ⟨rfl, HB.out.alloc HB.out.size _⟩
      | true =>
        simp only [if_true]
        by_cases he : xn = u
        · subst he
          simp only [if_true]
          go_enter Try.func46, Try.ntmps46
          go_wp2_with (first | (go_at_call 48; refine (d1 _).mono ?_; rintro e w1 ⟨rfl, hb⟩; simp only [World.size_alloc] at hb; obtain ⟨l0, l1, l2, l3⟩ := holds_low hb; obtain ⟨c0, c1, c2, c3, c4, ⟨ka, kc, c5, _⟩, c6, c7⟩ := NX.out _ l3; have hbw := World.block_lt_of_cell? w1 _ c0; have hbl := World.block_lt_of_cell? w1 _ l1; have hbm := World.block_lt_of_cell? w1 _ l0; have HB : Hid _ := l3; clear hb l3) | (go_at_call 56; refine (d2 _).mono ?_; rintro e w' ⟨rfl, rfl⟩))
          go_ret
          exact ⟨rfl, HB.out.alloc HB.out.size _⟩
        · simp only [if_neg he]
          have he2 : (xn == u) = false := by simp [he]
          go_enter Try.func46, Try.ntmps46
          go_wp2_with (first | (go_at_call 48; refine (d1 _).mono ?_; rintro e w1 ⟨rfl, hb⟩; simp only [World.size_alloc] at hb; obtain ⟨l0, l1, l2, l3⟩ := holds_low hb; obtain ⟨c0, c1, c2, c3, c4, ⟨ka, kc, c5, _⟩, c6, c7⟩ := NX.out _ l3; have hbw := World.block_lt_of_cell? w1 _ c0; have hbl := World.block_lt_of_cell? w1 _ l1; have hbm := World.block_lt_of_cell? w1 _ l0; have HB : Hid _ := l3; clear hb l3) | (go_at_call 56; refine (d2 _).mono ?_; rintro e w' ⟨rfl, rfl⟩))
          go_ret
          exact ⟨rfl, HB.out.alloc HB.out.size _⟩

/-- Hands in a row. -/
def HandsAt (w : World) (a : Option Addr) (hs : List (Int × Int)) : Prop :=
  ∀ i, i < hs.length → ∃ b o, a = some ⟨b, o, none⟩ ∧ w.cell? ⟨b, o + i * 2, none⟩ = some (.int .i64 (hs.getD i (0, 0)).1) ∧ w.cell? ⟨b, o + i * 2 + 1, none⟩ = some (.int .i64 (hs.getD i (0, 0)).2)

theorem HandsAt.below {w w' : World} {a : Option Addr} {hs : List (Int × Int)} (h : HandsAt w a hs) (hb : Below w.heap.size w w') : HandsAt w' a hs := fun i hi => by
  obtain ⟨b, o, e, h1, h2⟩ := h i hi
  exact ⟨b, o, e, (hb.cell (World.block_lt_of_cell? w ⟨b, o + i * 2, none⟩ h1)).trans h1, (hb.cell (World.block_lt_of_cell? w ⟨b, o + i * 2 + 1, none⟩ h2)).trans h2⟩

def handsE (S : List Nd) : List (Int × Int) → Int
  | [] => 0
  | h :: r => if holdsE S h.1 h.2 = 0 then handsE S r else holdsE S h.1 h.2

def tcheckE (S : List Nd) (hs : List (Int × Int)) : Int := if checkE S = 0 then handsE S hs else checkE S

theorem drop_cons {α : Type} {l : List α} {d : α} {k : Nat} (h : k < l.length) : l.drop k = l.getD k d :: l.drop (k + 1) := by
  rw [getD_elem l d h]; exact List.drop_eq_getElem_cons h

set_option maxHeartbeats 2000000 in
theorem tcheck_any (a : Option Addr) (c : Nat) (S : List Nd) (ha : Option Addr) (hc : Nat) (hs : List (Int × Int)) (w : World) (hN : S.length ≤ 9223372036854775807) (hB : Big S) (hS : NdsAt w a S) (hL : hs.length ≤ 9223372036854775807) (hH : HandsAt w ha hs) :
    Calls Try.prog 39 #[.agg #[.slice a S.length c], .slice ha hs.length hc] w fun e w' => e = .returned (.int .i64 (tcheckE S hs)) ∧ Below w.heap.size w w' := by
  have R0 : Hid (checkE S = 0 → tcheckE S hs = handsE S (hs.drop 0)) := fun h => by unfold tcheckE; rw [if_pos h]; rfl
  have R1 : Hid (checkE S ≠ 0 → tcheckE S hs = checkE S) := fun h => by unfold tcheckE; rw [if_neg h]
  have dc := fun (W : World) (hW : NdsAt W a S) => check_any a c S W hN hB hW
  have dh := fun (p u : Int) (W : World) (hW : NdsAt W a S) => holds_any a c S p u W hN hW
  have DH : Hid _ := dh
  have HS : Hid (NdsAt w a S) := hS
  have HH : Hid (HandsAt w ha hs) := hH
  clear hS hH dh hB
  generalize tcheckE S hs = RES at *
  generalize hn : S.length = n at *
  generalize hm : hs.length = m at *
  have HM : Hid (hs.length = m) := hm
  clear hm hn
  by_cases hz : checkE S = 0
  · rw [hz] at dc
    have R2 : Hid _ := R0.out hz
    clear R0 R1 hz
    go_enter Try.func39, Try.ntmps39
    go_wp2_with (go_at_call 45; refine (dc _ (HS.out.below ((Below.refl _ _).alloc (Nat.le_refl _) _))).mono ?_; rintro e w1 ⟨rfl, hb1⟩)
    have lb : w1.cell? ⟨w.heap.size, 0, none⟩ = some (.slice a n c) := store_low (by simpa using hb1)
    have hB1 : Below w.heap.size w w1 := ((Below.refl _ _).alloc (Nat.le_refl _) _).trans (hb1.mono (by simp))
    clear hb1 dc
    go_loopg [16] m (fun g s16 wr => ∃ k : Nat, k ≤ m ∧ m - k ≤ g ∧ s16 = .int .i64 k ∧ Below w.heap.size w wr ∧ wr.cell? ⟨w.heap.size, 0, none⟩ = some (.slice a n c) ∧ Hid (RES = handsE S (hs.drop k)))
    case atStart => exact ⟨0, by omega, by omega, rfl, hB1, lb, R2⟩
    case round =>
      obtain ⟨k, hk, hg, rfl, hb, lb2, A⟩ := hrel
      have hlb := World.block_lt_of_cell? _ _ lb2
      clear lb hB1 R2
      by_cases hlt : k < m
      · obtain ⟨b, o, rfl, c0, c1⟩ := (HH.out.below hb) k (by rw [HM.out]; exact hlt)
        have hbw := World.block_lt_of_cell? _ _ c0
        have EQ := A.out
        rw [drop_cons (d := (0, 0)) (by rw [HM.out]; exact hlt)] at EQ
        simp only [handsE] at EQ
        generalize (hs.getD k (0, 0)).1 = p at *
        generalize (hs.getD k (0, 0)).2 = u at *
        have d1 := fun W hW => DH.out p u W hW
        have HB : Hid (∀ o1, NdsAt (wr.alloc o1) a S) := fun o1 => (HS.out.below hb).below ((Below.refl _ _).alloc (Nat.le_refl _) _)
        generalize holdsE S p u = ev at *
        by_cases hz : ev = 0
        · subst hz
          rw [if_pos rfl] at EQ
          have E2 : Hid _ := EQ
          clear EQ
          go_wp2_with (go_at_call 46; refine (d1 _ (HB.out _)).mono ?_; rintro e w2 ⟨rfl, hb2⟩)
          go_roundg (m - (k + 1))
          case measure => omega
          case rel =>
            have hb3 : Below wr.heap.size wr w2 := ((Below.refl _ _).alloc (Nat.le_refl _) _).trans (hb2.mono (by simp))
            exact ⟨k + 1, by omega, by omega, by go_num, hb.trans (hb3.mono hb.size), (hb3.cell hlb).trans lb2, E2⟩
        · rw [if_neg hz] at EQ
          have hz2 : (ev == 0) = false := by simp [hz]
          have E2 : Hid _ := EQ
          clear EQ
          go_wp2_with (go_at_call 46; refine (d1 _ (HB.out _)).mono ?_; rintro e w2 ⟨rfl, hb2⟩)
          go_ret
          have hb3 : Below wr.heap.size wr w2 := ((Below.refl _ _).alloc (Nat.le_refl _) _).trans (hb2.mono (by simp))
          exact ⟨by rw [E2.out]; rfl, hb.trans (hb3.mono hb.size)⟩
      · have : k = m := by omega
        subst this
        have EQ := A.out
        rw [← HM.out, List.drop_length] at EQ
        have E2 : Hid _ := EQ
        clear EQ
        go_wp2
        go_ret
        exact ⟨by rw [E2.out]; rfl, hb⟩
  · have R2 : Hid _ := R1.out hz
    clear R0 R1
    generalize checkE S = ev at *
    have hz2 : (ev == 0) = false := by simp [hz]
    go_enter Try.func39, Try.ntmps39
    go_wp2_with (go_at_call 45; refine (dc _ (HS.out.below ((Below.refl _ _).alloc (Nat.le_refl _) _))).mono ?_; rintro e w1 ⟨rfl, hb1⟩)
    go_ret
    exact ⟨by rw [R2.out]; rfl, ((Below.refl _ _).alloc (Nat.le_refl _) _).trans (hb1.mono (by simp))⟩
end Go.Proofs.Ytplkfacaphejgaa
