/-
  Rows of slots; searches among them with any closure; slotsOf's closure.
-/
import Derived.Test.YtlgnapdhnlhkpaaULcZg
import Derived.Test.YtlgnapdhnlhkpaaUSkSl
import Derived.BigQuiet
import Derived.Test.YtlgnapdhnlhkpaaUTn
namespace Go.Proofs.Ytlgnapdhnlhkpaa
open Go.RowKit

def slt (L : List Slt) (i : Nat) : Slt := L.getD i ⟨0, 0, []⟩

/-- A row of slots, as it reads. -/
def SltsAt (w : World) (a : Option Addr) (L : List Slt) : Prop :=
  ∀ i, i < L.length → ∃ b o, a = some ⟨b, o, none⟩ ∧ w.cell? ⟨b, o + i * 3, none⟩ = some (.int .i64 (slt L i).pl) ∧ w.cell? ⟨b, o + i * 3 + 1, none⟩ = some (.int .i64 (slt L i).num) ∧ ∃ ga gc, w.cell? ⟨b, o + i * 3 + 2, none⟩ = some (.slice ga (slt L i).gv.length gc) ∧ IntsAt w ga (slt L i).gv

theorem SltsAt.below {w w' : World} {a : Option Addr} {L : List Slt} (h : SltsAt w a L) (hb : Below w.heap.size w w') : SltsAt w' a L := fun i hi => by
  obtain ⟨b, o, e, h1, h2, ga, gc, h3, h4⟩ := h i hi
  have hlt : b < w.heap.size := World.block_lt_of_cell? _ _ h1
  exact ⟨b, o, e, (hb.cell (by exact hlt)).trans h1, (hb.cell (by exact hlt)).trans h2, ga, gc, (hb.cell (by exact hlt)).trans h3, h4.below hb⟩

theorem slt_elem {L : List Slt} {i : Nat} (h : i < L.length) : slt L i = L[i] := getD_elem L _ h

/-- What is asked of a function value that tells yes or no of a slot. -/
def TellsS (K : Nat) (caps : Array Value) (p : Slt → Bool) (w : World) : Prop :=
  ∀ (x : Slt) (k : Value) (w1 : World), Below w.heap.size w w1 → Calls Try.prog K (#[.agg #[.int .i64 x.pl, .int .i64 x.num, k]] ++ caps) w1 fun e w2 => e = .returned (.bool (p x)) ∧ Below w1.heap.size w1 w2

set_option maxHeartbeats 800000 in
theorem indexSl_any (K : Nat) (caps : Array Value) (p : Slt → Bool) (a : Option Addr) (c : Nat) (L : List Slt) (w : World) (hbig : L.length ≤ 9223372036854775807) (hL : SltsAt w a L)
    (eg : ∀ args w, (callFunc K args).run Try.prog w = .ok (.enter K args) w) (hf : TellsS K caps p w) :
    Calls Try.prog 65 #[.slice a L.length c, .func (.func K) #[] caps] w fun e w' => ∃ r : Int, e = .returned (.int .i64 r) ∧ Below w.heap.size w w' ∧
      ((r = -1 ∧ ∀ i, i < L.length → p (slt L i) = false) ∨ (∃ k : Nat, k < L.length ∧ r = k ∧ p (slt L k) = true ∧ ∀ i, i < k → p (slt L i) = false)) := by
  have HS : Hid (SltsAt w a L) := hL
  have HF : Hid (TellsS K caps p w) := hf
  clear hL hf
  generalize hn : L.length = n at *
  have HN : Hid _ := hn
  clear hn
  go_enter Try.func65, Try.ntmps65
  go_wp2
  go_loopg [8] n (fun g s8 wr => ∃ k : Nat, k ≤ n ∧ n - k ≤ g ∧ s8 = .int .i64 k ∧ Below w.heap.size w wr ∧ Hid (∀ i, i < k → p (slt L i) = false))
  case atStart => exact ⟨0, by omega, by omega, rfl, Below.refl _ _, fun i hi => by omega⟩
  case round =>
    obtain ⟨k, hk, hg, rfl, hb, A⟩ := hrel
    by_cases hlt : k < n
    · have hlt2 : (k : Int) < (n : Int) := by omega
      obtain ⟨b, o, rfl, c0, c1, ka, kc, c2, _⟩ := (HS.out.below hb) k (by rw [HN.out]; exact hlt)
      have hcall := fun v => HF.out (slt L k) v wr hb
      cases hq : p (slt L k) with
      | true =>
        have HQ : Hid (p (slt L k) = true) := hq
        rw [hq] at hcall
        clear hq
        generalize hx : slt L k = x at hcall c0 c1 c2
        clear hx
        go_wp2_with (go_at_fn K; refine (hcall _).mono ?_; rintro e w' ⟨rfl, hb2⟩)
        go_ret
        exact ⟨k, rfl, hb.trans (hb2.mono hb.size), Or.inr ⟨k, hlt, rfl, HQ.out, A.out⟩⟩
      | false =>
        have HQ : Hid (p (slt L k) = false) := hq
        rw [hq] at hcall
        clear hq
        generalize hx : slt L k = x at hcall c0 c1 c2
        clear hx
        go_wp2_with (go_at_fn K; refine (hcall _).mono ?_; rintro e w' ⟨rfl, hb2⟩)
        go_roundg (n - (k + 1))
        case measure => omega
        case rel =>
          refine ⟨k + 1, by omega, by omega, by go_num, hb.trans (hb2.mono hb.size), (show Hid _ from fun i hi => ?_)⟩
          by_cases e : i = k
          · subst e
            exact HQ.out
          · exact A.out i (by omega)
    · have : k = n := by omega
      subst this
      go_wp2
      go_ret
      exact ⟨-1, rfl, hb, Or.inl ⟨rfl, A.out⟩⟩

set_option maxHeartbeats 400000 in
theorem containsSl_any (K : Nat) (caps : Array Value) (p : Slt → Bool) (a : Option Addr) (c : Nat) (L : List Slt) (w : World) (hbig : L.length ≤ 9223372036854775807) (hL : SltsAt w a L)
    (eg : ∀ args w, (callFunc K args).run Try.prog w = .ok (.enter K args) w) (hf : TellsS K caps p w) :
    Calls Try.prog 42 #[.slice a L.length c, .func (.func K) #[] caps] w fun e w' => e = .returned (.bool (L.any p)) ∧ Below w.heap.size w w' := by
  have h := indexSl_any K caps p a c L w hbig hL eg hf
  have any_of : ∀ k, k < L.length → p (slt L k) = true → L.any p = true := fun k hk hp => List.any_eq_true.2 ⟨slt L k, by rw [slt_elem hk]; exact List.getElem_mem hk, hp⟩
  have none_of : (∀ i, i < L.length → p (slt L i) = false) → L.any p = false := fun H => by
    rw [List.any_eq_false]
    intro x hx
    obtain ⟨i, hi, rfl⟩ := List.getElem_of_mem hx
    have := H i hi
    rw [slt_elem hi] at this
    simp [this]
  have H : Hid _ := any_of
  have N : Hid _ := none_of
  clear any_of none_of hL hf
  go_enter Try.func42, Try.ntmps42
  go_wp2_with (go_at_call 65; refine h.mono ?_; rintro e w' ⟨r, rfl, hb, hr⟩)
  go_ret
  refine ⟨?_, hb⟩
  rcases hr with ⟨rfl, hall⟩ | ⟨k, hk, rfl, hp, _⟩
  · rw [N.out hall]; rfl
  · rw [H.out k hk hp]
    simp

set_option maxHeartbeats 400000 in
theorem slotsOf1_any (x : Slt) (k : Value) (q : Nat) (y : Int) (w : World) (hq : w.cell? ⟨q, 0, none⟩ = some (.int .i64 y)) :
    Calls Try.prog 43 #[.agg #[.int .i64 x.pl, .int .i64 x.num, k], .pointer (some ⟨q, 0, none⟩)] w fun e w' => e = .returned (.bool (decide (x.num = y))) ∧ Below w.heap.size w w' := by
  obtain ⟨pl, num, gv⟩ := x
  dsimp only
  have hql := World.block_lt_of_cell? _ _ hq
  by_cases e : num = y
  · subst e
    rw [decide_eq_true rfl]
    go_enter Try.func43, Try.ntmps43
    go_wp2
    go_ret
    exact ⟨rfl, (Below.refl _ _).alloc (Nat.le_refl _) _⟩
  · rw [decide_eq_false e]
    have e2 : (num == y) = false := by simpa using e
    go_enter Try.func43, Try.ntmps43
    go_wp2
    go_ret
    exact ⟨rfl, (Below.refl _ _).alloc (Nat.le_refl _) _⟩

/-- Is there a slot of this number? -/
theorem hasNum_any (a : Option Addr) (c : Nat) (L : List Slt) (q : Nat) (y : Int) (w : World) (hbig : L.length ≤ 9223372036854775807) (hL : SltsAt w a L) (hq : w.cell? ⟨q, 0, none⟩ = some (.int .i64 y)) :
    Calls Try.prog 42 #[.slice a L.length c, .func (.func 43) #[] #[.pointer (some ⟨q, 0, none⟩)]] w fun e w' => e = .returned (.bool (L.any fun s => decide (s.num = y))) ∧ Below w.heap.size w w' :=
  containsSl_any 43 _ (fun s => decide (s.num = y)) a c L w hbig hL (enters_of Try.func43 (by kernel_rfl) rfl) (fun x k w1 h1 => slotsOf1_any x k q y w1 ((h1.cell (by exact World.block_lt_of_cell? _ _ hq)).trans hq))
end Go.Proofs.Ytlgnapdhnlhkpaa

namespace Go.Proofs.Ytlgnapdhnlhkpaa
open Go.RowKit

theorem rin_any (x a b : Int) (w : World) :
    Calls Try.prog 66 #[.int .i64 x, .int .i64 a, .int .i64 b] w fun e w' => e = .returned (.bool (decide (a ≤ x ∧ x ≤ b))) ∧ w' = w := by
  by_cases h1 : a ≤ x
  · by_cases h2 : x ≤ b
    · rw [decide_eq_true ⟨h1, h2⟩]
      go_enter Try.func66, Try.ntmps66
      go_wp2
      go_ret
      exact ⟨rfl, rfl⟩
    · rw [decide_eq_false (fun h => h2 h.2)]
      have h3 : decide (x ≤ b) = false := decide_eq_false h2
      go_enter Try.func66, Try.ntmps66
      go_wp2
      go_ret
      exact ⟨rfl, rfl⟩
  · rw [decide_eq_false (fun h => h1 h.1)]
    have h3 : decide (a ≤ x) = false := decide_eq_false h1
    go_enter Try.func66, Try.ntmps66
    go_wp2
    go_ret
    exact ⟨rfl, rfl⟩

set_option maxHeartbeats 400000 in
theorem rRightUnder_any (x : Nd) (k : Value) (w : World) :
    Calls Try.prog 35 #[.agg #[.bool x.u, .int .i64 x.n, .int .i64 x.t, .int .i64 x.m, .int .i64 x.p, k, .int .i64 x.h, .bool x.c]] w fun e w' => e = .returned (.int .i64 (if x.h = -1 then x.p else x.h)) ∧ Below w.heap.size w w' := by
  obtain ⟨u, n, t, m, p, ks, h, c⟩ := x
  dsimp only
  by_cases e : h = -1
  · subst e
    simp only [if_true]
    go_enter Try.func35, Try.ntmps35
    go_wp2
    go_ret
    exact ⟨rfl, (Below.refl _ _).alloc (Nat.le_refl _) _⟩
  · simp only [if_neg e]
    have e2 : (h == -1) = false := beq_eq_false_iff_ne.2 e
    go_enter Try.func35, Try.ntmps35
    go_wp2
    go_ret
    exact ⟨rfl, (Below.refl _ _).alloc (Nat.le_refl _) _⟩
end Go.Proofs.Ytlgnapdhnlhkpaa

namespace Go.Proofs.Ytlgnapdhnlhkpaa
open Go.RowKit

set_option maxHeartbeats 2000000 in
theorem rHolds_any (a : Option Addr) (c : Nat) (S : List Nd) (p u : Int) (w : World) (hN : S.length ≤ 9223372036854775807) (hS : NdsAt w a S) :
    Calls Try.prog 49 #[.agg #[.slice a S.length c], .agg #[.int .i64 p, .int .i64 u]] w fun e w' => e = .returned (.int .i64 (holdsE S p u)) ∧ Below w.heap.size w w' := by
  unfold holdsE
  have d1 := rin_any p 0 ((S.length : Int) - 1)
  rw [show decide (0 ≤ p ∧ p ≤ (S.length : Int) - 1) = isPl S.length p from rfl] at d1
  cases hq : isPl S.length p with
  | false =>
    rw [hq] at d1
    simp only [Bool.false_eq_true, if_false]
    generalize S.length = n at *
    clear hS
    go_enter Try.func49, Try.ntmps49
    go_wp2_with fail
    go_big_quiet ((go_at_call 66; exact Calls.quiet_of_same (d1 _)))
    go_wp2
    go_ret
    exact ⟨rfl, Below.drewNs (((Below.refl _ _).alloc (Nat.le_refl _) _).alloc (by simp) _) _⟩
  | true =>
    rw [hq] at d1
    simp only [if_true]
    have hq' : 0 ≤ p ∧ p ≤ (S.length : Int) - 1 := of_decide_eq_true hq
    clear hq
    obtain ⟨k, rfl⟩ : ∃ k : Nat, p = (k : Int) := ⟨p.toNat, by omega⟩
    have hk : k < S.length := by omega
    have hk2 : (k : Int) < (S.length : Int) := by omega
    simp only [Int.toNat_natCast]
    obtain ⟨b, o, rfl, c0, c1, c2, c3, c4, ⟨ka, kc, c5, _⟩, c6, c7⟩ := hS k hk
    have hbw : b < w.heap.size := World.block_lt_of_cell? w ⟨b, o + k * 8, none⟩ c0
    clear hS hq'
    generalize nd S k = x at *
    unfold holdX
    obtain ⟨xu, xn, xt, xm, xp, xks, xh, xc⟩ := x
    dsimp only at *
    generalize xks.length = kl at *
    generalize S.length = n at *
    have d2 := rin_any u 1 xn
    generalize hb1 : decide (1 ≤ u ∧ u ≤ xn) = b1 at *
    cases b1 with
    | false =>
      clear hb1
      simp only [Bool.false_eq_true, if_false]
      go_enter Try.func49, Try.ntmps49
      go_wp2_with fail
      go_big_quiet ((first | (go_at_call_of 66 (Value.int .i64 0); exact Calls.quiet_of_same (d1 _)) | (go_at_call_of 66 (Value.int .i64 1); exact Calls.quiet_of_same (d2 _))))
      go_wp2
      go_ret
      exact ⟨rfl, Below.drewNs (((Below.refl _ _).alloc (Nat.le_refl _) _).alloc (by simp) _) _⟩
    | true =>
      have hb2 : 1 ≤ u ∧ u ≤ xn := of_decide_eq_true hb1
      clear hb1
      simp only [if_true]
      cases xu with
      | false =>
        simp only [Bool.false_eq_true, if_false]
        go_enter Try.func49, Try.ntmps49
        go_wp2_with fail
        go_big_quiet ((first | (go_at_call_of 66 (Value.int .i64 0); exact Calls.quiet_of_same (d1 _)) | (go_at_call_of 66 (Value.int .i64 1); exact Calls.quiet_of_same (d2 _))))
        go_wp2
        go_big_quiet (fail)
        go_wp2
        go_ret
        exact ⟨rfl, Below.drewNs (Below.drewNs (((Below.refl _ _).alloc (Nat.le_refl _) _).alloc (by simp) _) _) _⟩
      | true =>
        simp only [if_true]
        by_cases he : xn = u
        · subst he
          simp only [if_true]
          have hlt : decide (xn < xn) = false := decide_eq_false (by omega)
          go_enter Try.func49, Try.ntmps49
          go_wp2_with fail
          go_big_quiet ((first | (go_at_call_of 66 (Value.int .i64 0); exact Calls.quiet_of_same (d1 _)) | (go_at_call_of 66 (Value.int .i64 1); exact Calls.quiet_of_same (d2 _))))
          go_wp2
          go_big_quiet (fail)
          go_wp2
          go_ret
          exact ⟨rfl, Below.drewNs (Below.drewNs (((Below.refl _ _).alloc (Nat.le_refl _) _).alloc (by simp) _) _) _⟩
        · simp only [if_neg he]
          have hlt : decide (u < xn) = true := decide_eq_true (by omega)
          go_enter Try.func49, Try.ntmps49
          go_wp2_with fail
          go_big_quiet ((first | (go_at_call_of 66 (Value.int .i64 0); exact Calls.quiet_of_same (d1 _)) | (go_at_call_of 66 (Value.int .i64 1); exact Calls.quiet_of_same (d2 _))))
          go_wp2
          go_big_quiet (fail)
          go_wp2
          go_ret
          exact ⟨rfl, Below.drewNs (Below.drewNs (((Below.refl _ _).alloc (Nat.le_refl _) _).alloc (by simp) _) _) _⟩
end Go.Proofs.Ytlgnapdhnlhkpaa

namespace Go.Proofs.Ytlgnapdhnlhkpaa
open Go.RowKit

theorem big_of {S : List Nd} (h : ∀ i, i < S.length → (nd S i).ks.length ≤ 1000) : Big S := fun i hi => Nat.le_trans (h i hi) (by omega)

theorem grown_low {w w1 : World} {g : Nat} (hb : Below (w.heap.size + 1 + 1) ((w.alloc (.cells #[.slice (some ⟨g, 0, none⟩) 6 6] 24)).alloc (.cells #[.int .i64 0, .int .i64 1, .int .i64 1, .int .i64 1, .int .i64 2, .int .i64 1] 59)) w1) :
    w1.cell? ⟨w.heap.size, 0, none⟩ = some (.slice (some ⟨g, 0, none⟩) 6 6) ∧ w1.cell? ⟨w.heap.size + 1, 0, none⟩ = some (.int .i64 0) ∧ w1.cell? ⟨w.heap.size + 1, 1, none⟩ = some (.int .i64 1) ∧ w1.cell? ⟨w.heap.size + 1, 2, none⟩ = some (.int .i64 1) ∧ w1.cell? ⟨w.heap.size + 1, 3, none⟩ = some (.int .i64 1) := by
  refine ⟨?_, ?_, ?_, ?_, ?_⟩
  · exact (hb.cell (by first | (simp; done) | (simp; omega))).trans (by go_simp)
  · exact (hb.cell (by first | (simp; done) | (simp; omega))).trans (by go_simp)
  · exact (hb.cell (by first | (simp; done) | (simp; omega))).trans (by go_simp)
  · exact (hb.cell (by first | (simp; done) | (simp; omega))).trans (by go_simp)
  · exact (hb.cell (by first | (simp; done) | (simp; omega))).trans (by go_simp)

end Go.Proofs.Ytlgnapdhnlhkpaa
