/-
  The contract of store.Same.
-/
import Derived.Test.YtjlapfgghljidaaUWbWdSrWfTm
namespace Go.Proofs.Ytjlapfgghljidaa
open Go.RowKit

theorem nds_ext {S S' : List Nd} (hl : S.length = S'.length) (h : ∀ i, i < S.length → nd S i = nd S' i) : S = S' :=
  List.ext_getElem hl fun i hi hi' => by
    have := h i hi
    rwa [nd_elem hi, nd_elem hi'] at this

theorem nd_eq_iff (x y : Nd) : x = y ↔ (x.u = y.u ∧ x.n = y.n ∧ x.t = y.t ∧ x.m = y.m ∧ x.p = y.p ∧ x.ks = y.ks ∧ x.h = y.h ∧ x.c = y.c) := by
  constructor
  · rintro rfl
    exact ⟨rfl, rfl, rfl, rfl, rfl, rfl, rfl, rfl⟩
  · obtain ⟨a1, a2, a3, a4, a5, a6, a7, a8⟩ := x
    obtain ⟨b1, b2, b3, b4, b5, b6, b7, b8⟩ := y
    rintro ⟨rfl, rfl, rfl, rfl, rfl, rfl, rfl, rfl⟩
    rfl

theorem sameNode_eq (x y : Nd) (ka ka' : Option Addr) (kc kc' : Nat) (w : World) (hbig : x.ks.length ≤ 9223372036854775807) (h1 : IntsAt w ka x.ks) (h2 : IntsAt w ka' y.ks) :
    Calls Try.prog 55 #[.agg #[.bool x.u, .int .i64 x.n, .int .i64 x.t, .int .i64 x.m, .int .i64 x.p, .slice ka x.ks.length kc, .int .i64 x.h, .bool x.c], .agg #[.bool y.u, .int .i64 y.n, .int .i64 y.t, .int .i64 y.m, .int .i64 y.p, .slice ka' y.ks.length kc', .int .i64 y.h, .bool y.c]] w fun e w' => ∃ r : Bool, e = .returned (.bool r) ∧ Below w.heap.size w w' ∧ (r = true ↔ x = y) := by
  refine (sameNode_any x.u y.u x.n y.n x.t y.t x.m y.m x.p y.p x.ks y.ks ka ka' kc kc' x.h y.h x.c y.c w hbig h1 h2).mono ?_
  rintro e w' ⟨rfl, hb⟩
  exact ⟨_, rfl, hb, by rw [decide_eq_true_iff, nd_eq_iff]⟩

set_option maxHeartbeats 1000000 in
theorem equalNodes_any (a a' : Option Addr) (c c' : Nat) (S S' : List Nd) (w : World) (hN : S.length ≤ 9223372036854775807) (hB : Big S) (h1 : NdsAt w a S) (h2 : NdsAt w a' S') :
    Calls Try.prog 54 #[.slice a S.length c, .slice a' S'.length c', .func (.func 55) #[] #[]] w fun e w' => ∃ r : Bool, e = .returned (.bool r) ∧ Below w.heap.size w w' ∧ (r = true ↔ S = S') := by
  have eg := enters_of Try.func55 (by kernel_rfl) rfl
  by_cases hl : S.length = S'.length
  · have E1 : Hid ((∀ i, i < S.length → nd S i = nd S' i) → S = S') := fun h => nds_ext hl h
    have E2 : Hid (∀ i, nd S i ≠ nd S' i → S ≠ S') := fun i h e => h (by rw [e])
    have H1 : Hid (NdsAt w a S) := h1
    have H2 : Hid (NdsAt w a' S') := h2
    have HB : Hid (Big S) := hB
    have HL : Hid (S'.length = S.length) := hl.symm
    rw [← hl]
    clear h1 h2 hB hl
    generalize hn : S.length = n at *
    have HN : Hid _ := hn
    clear hn
    go_enter Try.func54, Try.ntmps54
    go_wp2
    go_loopg [17] n (fun g s17 wr => ∃ k : Nat, k ≤ n ∧ n - k ≤ g ∧ s17 = .int .i64 k ∧ Below w.heap.size w wr ∧ Hid (∀ i, i < k → nd S i = nd S' i))
    case atStart => exact ⟨0, by omega, by omega, rfl, Below.refl _ _, fun i hi => by omega⟩
    case round =>
      obtain ⟨k, hk, hg, rfl, hb, A⟩ := hrel
      by_cases hlt : k < n
      · have hlt2 : (k : Int) < (n : Int) := by omega
        obtain ⟨b, o, rfl, c0, c1, c2, c3, c4, ⟨ka, kc, c5, hk1⟩, c6, c7⟩ := (H1.out.below hb) k (by rw [HN.out]; exact hlt)
        obtain ⟨b', o', rfl, e0, e1, e2, e3, e4, ⟨ka', kc', e5, hk2⟩, e6, e7⟩ := (H2.out.below hb) k (by rw [HL.out]; exact hlt)
        have hbb := World.block_lt_of_cell? _ _ c0
        have hbb' := World.block_lt_of_cell? _ _ e0
        have d1 := fun o1 o2 => sameNode_eq (nd S k) (nd S' k) ka ka' kc kc' ((wr.alloc o1).alloc o2) (HB.out k (by rw [HN.out]; exact hlt)) (hk1.below (two_below _ _ _)) (hk2.below (two_below _ _ _))
        have EK := E2.out k
        have EK2 : Hid _ := EK
        have KK : Hid (nd S k = nd S' k → ∀ i, i < k + 1 → nd S i = nd S' i) := fun h i hi => by
          by_cases e : i = k
          · subst e; exact h
          · exact A.out i (by omega)
        clear EK hk1 hk2
        have D1 : Hid _ := d1
        clear d1
        generalize nd S k = x at *
        generalize nd S' k = y at *
        go_wp2_with fail
        refine (D1.out _ _).mono ?_
        rintro e w3 ⟨r, rfl, hb3, hr⟩
        cases r with
        | true =>
          have HR : Hid _ := hr.1 rfl
          clear hr
          go_wp2
          go_roundg (n - (k + 1))
          case measure => omega
          case rel => exact ⟨k + 1, by omega, by omega, by go_num, (hb.trans ((two_below _ _ _).mono hb.size)).trans (hb3.mono (by simp; have := hb.size; omega)), KK.out HR.out⟩
        | false =>
          have HR : Hid (S ≠ S') := EK2.out fun e => by have := hr.2 e; cases this
          clear hr
          go_wp2
          go_ret
          exact ⟨false, rfl, (hb.trans ((two_below _ _ _).mono hb.size)).trans (hb3.mono (by simp; have := hb.size; omega)), ⟨fun h => (by cases h), fun h => absurd h HR.out⟩⟩
      · have : k = n := by omega
        subst this
        go_wp2
        go_ret
        exact ⟨true, rfl, hb, ⟨fun _ => E1.out A.out, fun _ => rfl⟩⟩
  · have hl' : ¬ ((S.length : Int) = (S'.length : Int)) := by omega
    have HNE : Hid (S ≠ S') := fun e => hl (by rw [e])
    clear h1 h2 hB
    generalize S.length = n at *
    generalize S'.length = n' at *
    go_enter Try.func54, Try.ntmps54
    go_wp2
    go_ret
    exact ⟨false, rfl, Below.refl _ _, ⟨fun h => (by cases h), fun h => absurd h HNE.out⟩⟩

set_option maxHeartbeats 400000 in
theorem same_any (a a' : Option Addr) (c c' : Nat) (S S' : List Nd) (w : World) (hN : S.length ≤ 9223372036854775807) (hB : Big S) (h1 : NdsAt w a S) (h2 : NdsAt w a' S') :
    Calls Try.prog 19 #[.agg #[.slice a S.length c], .agg #[.slice a' S'.length c']] w fun e w' => ∃ r : Bool, e = .returned (.bool r) ∧ Below w.heap.size w w' ∧ (r = true ↔ S = S') := by
  have D1 : Hid _ := fun o1 o2 => equalNodes_any a a' c c' S S' ((w.alloc o1).alloc o2) hN hB (h1.below (two_below _ _ _)) (h2.below (two_below _ _ _))
  clear h1 h2 hB
  generalize S.length = n at *
  generalize S'.length = n' at *
  go_enter Try.func19, Try.ntmps19
  go_wp2_with (go_at_call 54; refine (D1.out _ _).mono ?_; rintro e w1 ⟨r, rfl, hb, hr⟩; have HR : Hid _ := hr; clear hr)
  go_ret
  exact ⟨r, rfl, (two_below _ _ _).trans (hb.mono (by simp; omega)), HR.out⟩
end Go.Proofs.Ytjlapfgghljidaa
