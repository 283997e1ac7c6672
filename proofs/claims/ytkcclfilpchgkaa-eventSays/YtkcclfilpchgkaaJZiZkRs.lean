/-
  The closed fact veiled.
-/
import Derived.Test.YtkcclfilpchgkaaJRrZg
import Derived.Test.YtkcclfilpchgkaaJZe
import Derived.Test.YtkcclfilpchgkaaJWc
import Derived.Test.YtkcclfilpchgkaaJRqRiRj
import Derived.Test.YtkcclfilpchgkaaJZh
namespace Go.Proofs.Ytkcclfilpchgkaa
open Go.RowKit

theorem s5_wf : WF S5 := (wf_iff _).1 (by decide)
def S6 : List Nd := S5.set 3 (rootNd (nd S5 3) 1 true)
def S7 : List Nd := enterS (leaveG S6 2) 3 2 0
theorem s6_wf : WF S6 := (wf_iff _).1 (by decide)
theorem s7_wf : WF S7 := (wf_iff _).1 (by decide)
theorem s6_check : tcheckE S6 [(((3 : Nat) : Int), 1), (((2 : Nat) : Int), 1)] = 0 := by decide
theorem s7_a : seenF S7 0 2 = false := by decide
theorem s7_b : seenF S7 3 2 = true := by decide
theorem s7_p : pathF S7 2 = [2, 3, 1, 0] := by decide
theorem s7_t : targetF S7 2 0 = 1 := by decide
theorem s7_0 : findE S7 ((0 : Nat) : Int) 1 = 0 := by decide
theorem s7_2 : findE S7 ((2 : Nat) : Int) 1 = 0 := by decide
theorem s7_3 : findE S7 ((3 : Nat) : Int) 1 = 0 := by decide
theorem s5_f1 : findE S5 ((1 : Nat) : Int) 1 = 0 := by decide

/-- The variables of veiled: the store, the hands, the root's hand. -/
def VL (X : World) (bs bh br g : Nat) : Prop :=
  (X.cell? ⟨bs, 0, none⟩ = some (.slice (some ⟨g, 0, none⟩) 6 6) ∧ (∀ o, X.frozen? ⟨bs, o, none⟩ = false)) ∧ (X.cell? ⟨bh, 0, none⟩ = some (.int .i64 0) ∧ X.cell? ⟨bh, 1, none⟩ = some (.int .i64 1) ∧ X.cell? ⟨bh, 2, none⟩ = some (.int .i64 1) ∧ X.cell? ⟨bh, 3, none⟩ = some (.int .i64 1) ∧ X.cell? ⟨bh, 4, none⟩ = some (.int .i64 2) ∧ X.cell? ⟨bh, 5, none⟩ = some (.int .i64 1)) ∧ (X.cell? ⟨br, 0, none⟩ = some (.int .i64 3) ∧ X.cell? ⟨br, 1, none⟩ = some (.int .i64 1))

theorem VL.below {X Y : World} {bs bh br g : Nat} (h : VL X bs bh br g) (hb : Below X.heap.size X Y) : VL Y bs bh br g := by
  obtain ⟨⟨a0, a1⟩, ⟨b0, b1, b2, b3, b4, b5⟩, c0, c1⟩ := h
  have l0 := World.block_lt_of_cell? _ _ a0
  have l1 := World.block_lt_of_cell? _ _ b0
  have l2 := World.block_lt_of_cell? _ _ c0
  exact ⟨⟨(hb.cell l0).trans a0, fun o => (hb.frozen (p := ⟨bs, o, none⟩) l0).trans (a1 o)⟩, ⟨(hb.cell (p := ⟨bh, 0, none⟩) l1).trans b0, (hb.cell (p := ⟨bh, 1, none⟩) l1).trans b1, (hb.cell (p := ⟨bh, 2, none⟩) l1).trans b2, (hb.cell (p := ⟨bh, 3, none⟩) l1).trans b3, (hb.cell (p := ⟨bh, 4, none⟩) l1).trans b4, (hb.cell (p := ⟨bh, 5, none⟩) l1).trans b5⟩, (hb.cell (p := ⟨br, 0, none⟩) l2).trans c0, (hb.cell (p := ⟨br, 1, none⟩) l2).trans c1⟩

theorem VL.set {X : World} {bs bh br g g' : Nat} (h : VL X bs bh br g) (h1 : bs ≠ bh) (h2 : bs ≠ br) : VL (X.setCell ⟨bs, 0, none⟩ (.slice (some ⟨g', 0, none⟩) 6 6)) bs bh br g' := by
  obtain ⟨⟨a0, a1⟩, ⟨b0, b1, b2, b3, b4, b5⟩, c0, c1⟩ := h
  refine ⟨⟨World.cell?_setCell_same _ _ _ a0, fun o => by rw [World.frozen?_setCell]; exact a1 o⟩, ⟨?_, ?_, ?_, ?_, ?_, ?_⟩, ?_, ?_⟩
  all_goals
    rw [World.cell?_setCell_other _ _ _ _ (addr_block (by first | exact h1 | exact h2))]
    assumption

end Go.Proofs.Ytkcclfilpchgkaa

namespace Go.Proofs.Ytkcclfilpchgkaa
open Go.RowKit

theorem find_used {S : List Nd} {p u : Int} (h : findE S p u = 0) : WF S ∧ ∃ k : Nat, p = k ∧ k < S.length ∧ (nd S k).u = true ∧ (nd S k).n = u := by
  obtain ⟨hc, hh⟩ := find_parts h
  refine ⟨(wf_iff S).1 hc, ?_⟩
  unfold holdsE at hh
  cases hq : isPl S.length p with
  | false => rw [hq, if_neg (by simp)] at hh; omega
  | true =>
    have hq' : 0 ≤ p ∧ p ≤ (S.length : Int) - 1 := of_decide_eq_true hq
    obtain ⟨k, rfl⟩ : ∃ k : Nat, p = k := ⟨p.toNat, by omega⟩
    rw [hq, if_pos rfl, Int.toNat_natCast] at hh
    unfold holdX at hh
    refine ⟨k, rfl, by omega, ?_⟩
    split at hh
    · split at hh
      · split at hh
        · exact ⟨by assumption, by assumption⟩
        · omega
      · omega
    · omega

theorem find_here {S : List Nd} (wf : WF S) {k : Nat} (hk : k < S.length) (hu : (nd S k).u = true) : findE S k (nd S k).n = 0 := find_zero wf (holds_used hk hu rfl wf)

theorem seen_of_roots {S : List Nd} {p q : Nat} (h : rootsF S p q = []) : seenF S p q = true := by
  unfold seenF
  rw [h]
  rfl

end Go.Proofs.Ytkcclfilpchgkaa

namespace Go.Proofs.Ytkcclfilpchgkaa
open Go.RowKit

theorem tcheck_1h (S : List Nd) (p u : Int) : tcheckE S [(p, u)] = findE S p u := by
  unfold tcheckE findE handsE handsE
  by_cases h : holdsE S p u = 0
  · simp [h]
  · simp [h]

theorem tcheck_two (S : List Nd) (p u q v : Int) : tcheckE S [(p, u), (q, v)] = if findE S p u = 0 then findE S q v else findE S p u := by
  unfold tcheckE findE handsE handsE handsE
  by_cases hc : checkE S = 0
  · simp only [if_pos hc]
    by_cases h : holdsE S p u = 0
    · simp only [if_pos h]
      by_cases h2 : holdsE S q v = 0
      · simp [h2]
      · simp [h2]
    · simp [h]
  · simp [hc]

theorem nds_none (W : World) : NdsAt W none [] := fun _ hi => absurd hi (Nat.not_lt_zero _)

/-- What Attach and Attached answer. -/
abbrev AttAns (f : Nat) (S T : List Nd) (p u : Int) (cl : Bool) (kp ku E : Int) : Prop := ∀ (a : Option Addr) (c : Nat) W, NdsAt W a S →
  Calls Try.prog f #[.agg #[.slice a S.length c], .agg #[.int .i64 p, .int .i64 u], .bool cl] W fun e w' => ∃ a' c', e = .returned (.tuple #[.agg #[.slice a' T.length c'], .agg #[.int .i64 kp, .int .i64 ku], .int .i64 E]) ∧ Below W.heap.size W w' ∧ NdsAt w' a' T

/-- What Seen and SeenFrom answer. -/
abbrev SeenAns (f : Nat) (S : List Nd) (p u q v : Int) (B : Bool) (E : Int) : Prop := ∀ (a : Option Addr) (c : Nat) W, NdsAt W a S →
  Calls Try.prog f #[.agg #[.slice a S.length c], .agg #[.int .i64 p, .int .i64 u], .agg #[.int .i64 q, .int .i64 v]] W fun e w' => e = .returned (.tuple #[.bool B, .int .i64 E]) ∧ Below W.heap.size W w'

set_option maxHeartbeats 1000000 in
theorem path_err (a : Option Addr) (c : Nat) (S : List Nd) (p u E : Int) (w : World) (hN : S.length ≤ 9223372036854775807) (hB : Big S) (hS : NdsAt w a S) (hE : findE S p u = E) (hE0 : E ≠ 0) :
    Calls Try.prog 13 #[.agg #[.slice a S.length c], .agg #[.int .i64 p, .int .i64 u]] w fun e w' => e = .returned (.tuple #[.slice none 0 0, .int .i64 E]) ∧ Below w.heap.size w w' := by
  have D0 : Hid (∀ W, NdsAt W a S → Calls _ _ _ _ _) := fun W hW => find_err a c S p u E W hN hB hW hE hE0
  have HS : Hid (NdsAt w a S) := hS
  have hz0 : (E == 0) = false := by simp [hE0]
  have hz1 : decide (E = 0) = false := decide_eq_false hE0
  clear hS hE hB hN
  generalize S.length = n at *
  go_enter Try.func13, Try.ntmps13
  go_wp2_with fail
  refine Calls.mono (D0.out _ (HS.out.below (two_below _ _ _))) ?_
  rintro e w2 ⟨rfl, hb2⟩
  simp only [World.size_alloc] at hb2
  have HB2 : Hid (Below w.heap.size w w2) := (two_below _ _ _).trans (hb2.mono (by omega))
  clear hb2
  go_wp2_with fail
  refine bodyPost_ret (v := .tuple #[.slice none 0 0, .int .i64 E]) (by simp [results, Try.results13, go_sem]) rfl ⟨rfl, ?_⟩
  first | exact HB2.out | exact HB2.out.alloc HB2.out.size _ | exact (HB2.out.alloc HB2.out.size _).drew

theorem path_all (S : List Nd) (p u : Int) (hN : S.length ≤ 9223372036854775807) (hB : Big S) :
    ∃ L : List Int, L.length ≤ 9223372036854775807 ∧ (findE S p u = 0 → ∃ k : Nat, p = k ∧ k < S.length ∧ L = pathF S k) ∧ (findE S p u ≠ 0 → L = []) ∧
    ∀ (a : Option Addr) (c : Nat) W, NdsAt W a S → Calls Try.prog 13 #[.agg #[.slice a S.length c], .agg #[.int .i64 p, .int .i64 u]] W fun e w' => ∃ a' c', e = .returned (.tuple #[.slice a' L.length c', .int .i64 (findE S p u)]) ∧ Below W.heap.size W w' ∧ IntsAt w' a' L := by
  by_cases hE : findE S p u = 0
  · obtain ⟨wf, k, rfl, hk, _, _⟩ := find_used hE
    refine ⟨pathF S k, by have := path_len S k; have := wf.small; omega, fun _ => ⟨k, rfl, hk, rfl⟩, fun h => absurd hE h, fun a c W hW => ?_⟩
    rw [hE]
    refine (path_ok a c S k u W wf hW hk hE).mono (fun e w' ⟨v, e1, hb, ho⟩ => ?_)
    obtain ⟨pa, pc, rfl, hi, _⟩ := own_slice ho
    exact ⟨pa, pc, e1, hb, hi⟩
  · exact ⟨[], by simp, fun h => absurd h hE, fun _ => rfl, fun a c W hW => (path_err a c S p u _ W hN hB hW rfl hE).mono (fun e w' ⟨e1, hb⟩ => ⟨none, 0, e1, hb, fun i hi => absurd hi (Nat.not_lt_zero _)⟩)⟩

/-- Is a place in use? (Of any number.) -/
def usedB (S : List Nd) (q : Int) : Bool := isPl S.length q && (nd S q.toNat).u

set_option maxHeartbeats 1000000 in
theorem used_all (a : Option Addr) (c : Nat) (S : List Nd) (q : Int) (w : World) (hS : NdsAt w a S) :
    Calls Try.prog 17 #[.agg #[.slice a S.length c], .int .i64 q] w fun e w' => e = .returned (.bool (usedB S q)) ∧ Below w.heap.size w w' := by
  by_cases hq : 0 ≤ q ∧ q < (S.length : Int)
  · obtain ⟨t, rfl⟩ : ∃ t : Nat, q = t := ⟨q.toNat, by omega⟩
    have ht : t < S.length := by omega
    obtain ⟨nb, no, rfl, c0, _⟩ := hS t ht
    have hnb := World.block_lt_of_cell? _ _ c0
    have e : usedB S (t : Int) = (nd S t).u := by
      unfold usedB
      rw [isPl_nat.2 ht, Int.toNat_natCast]
      rfl
    rw [e]
    have h1 : (t : Int) < (S.length : Int) := hq.2
    have b1 : decide ((0 : Int) ≤ (t : Int)) = true := decide_eq_true hq.1
    have b2 : decide ((t : Int) < (S.length : Int)) = true := decide_eq_true h1
    clear hS e hq
    generalize (nd S t).u = x at *
    generalize S.length = n at *
    go_enter Try.func17, Try.ntmps17
    go_wp2
    go_ret
    exact ⟨rfl, (Below.refl _ _).alloc (Nat.le_refl _) _⟩
  · have e : usedB S q = false := by
      unfold usedB
      have : isPl S.length q = false := by
        unfold isPl
        exact decide_eq_false (by omega)
      rw [this]
      rfl
    rw [e]
    clear hS e
    generalize S.length = n at *
    by_cases h0 : 0 ≤ q
    · have h1 : ¬ q < (n : Int) := fun h => hq ⟨h0, h⟩
      have b1 : decide (0 ≤ q) = true := decide_eq_true h0
      have b2 : decide (q < (n : Int)) = false := decide_eq_false h1
      clear hq
      go_enter Try.func17, Try.ntmps17
      go_wp2
      go_ret
      exact ⟨rfl, (Below.refl _ _).alloc (Nat.le_refl _) _⟩
    · have b1 : decide (0 ≤ q) = false := decide_eq_false h0
      clear hq
      go_enter Try.func17, Try.ntmps17
      go_wp2
      go_ret
      exact ⟨rfl, (Below.refl _ _).alloc (Nat.le_refl _) _⟩
end Go.Proofs.Ytkcclfilpchgkaa
