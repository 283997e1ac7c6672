/-
  The reference's small functions: in, RightUnder, HoldsOf.
-/
import Derived.Test.YtgjfmepbphfjoaaGreatUSkSl
import Derived.BigQuiet
import Derived.Test.YtgjfmepbphfjoaaGreatUUbWbWdSr
import Derived.Test.YtgjfmepbphfjoaaGreatUDbDcZg
import Derived.Laws.StructEq
namespace Go.Proofs.YtgjfmepbphfjoaaGreat
open Go.RowKit

theorem rin_any (x a b : Int) (w : World) :
    Calls Tryz.prog 36 #[.int .i64 x, .int .i64 a, .int .i64 b] w fun e w' => e = .returned (.bool (decide (a ≤ x ∧ x ≤ b))) ∧ w' = w := by
  by_cases h1 : a ≤ x
  · by_cases h2 : x ≤ b
    · rw [decide_eq_true ⟨h1, h2⟩]
      go_enter Tryz.func36, Tryz.ntmps36
      go_wp2
      go_ret
      exact ⟨rfl, rfl⟩
    · rw [decide_eq_false (fun h => h2 h.2)]
      have h3 : decide (x ≤ b) = false := decide_eq_false h2
      go_enter Tryz.func36, Tryz.ntmps36
      go_wp2
      go_ret
      exact ⟨rfl, rfl⟩
  · rw [decide_eq_false (fun h => h1 h.1)]
    have h3 : decide (a ≤ x) = false := decide_eq_false h1
    go_enter Tryz.func36, Tryz.ntmps36
    go_wp2
    go_ret
    exact ⟨rfl, rfl⟩

set_option maxHeartbeats 400000 in
theorem rRightUnder_any (x : Nd) (k : Value) (w : World) :
    Calls Tryz.prog 84 #[.agg #[.bool x.u, .int .i64 x.n, .int .i64 x.t, .int .i64 x.m, .int .i64 x.p, k, .int .i64 x.h, .bool x.c]] w fun e w' => e = .returned (.int .i64 (if x.h = -1 then x.p else x.h)) ∧ Below w.heap.size w w' := by
  obtain ⟨u, n, t, m, p, ks, h, c⟩ := x
  dsimp only
  by_cases e : h = -1
  · subst e
    simp only [if_true]
    go_enter Tryz.func84, Tryz.ntmps84
    go_wp2
    go_ret
    exact ⟨rfl, (Below.refl _ _).alloc (Nat.le_refl _) _⟩
  · simp only [if_neg e]
    have e2 : (h == -1) = false := beq_eq_false_iff_ne.2 e
    go_enter Tryz.func84, Tryz.ntmps84
    go_wp2
    go_ret
    exact ⟨rfl, (Below.refl _ _).alloc (Nat.le_refl _) _⟩
end Go.Proofs.YtgjfmepbphfjoaaGreat

namespace Go.Proofs.YtgjfmepbphfjoaaGreat
open Go.RowKit

set_option maxHeartbeats 2000000 in
theorem rHolds_any (a : Option Addr) (c : Nat) (S : List Nd) (p u : Int) (w : World) (hN : S.length ≤ 9223372036854775807) (hS : NdsAt w a S) :
    Calls Tryz.prog 41 #[.agg #[.slice a S.length c], .agg #[.int .i64 p, .int .i64 u]] w fun e w' => e = .returned (.int .i64 (holdsE S p u)) ∧ Below w.heap.size w w' := by
  unfold holdsE
  have d1 := rin_any p 0 ((S.length : Int) - 1)
  rw [show decide (0 ≤ p ∧ p ≤ (S.length : Int) - 1) = isPl S.length p from rfl] at d1
  cases hq : isPl S.length p with
  | false =>
    rw [hq] at d1
    simp only [Bool.false_eq_true, if_false]
    generalize S.length = n at *
    clear hS
    go_enter Tryz.func41, Tryz.ntmps41
    go_wp2_with fail
    go_big_quiet ((go_at_call 36; exact Calls.quiet_of_same (d1 _)))
    go_wp2
    go_ret
    exact ⟨rfl, Below.drewNs (((Below.refl _ _).alloc (Nat.le_refl _) _).alloc (by simp) _) _⟩
  | true =>
    rw [hq] at d1
    simp only [if_true]
    have hq' : 0 ≤ p ∧ p ≤ (S.length : Int) - 1 := of_decide_eq_true hq
    clear hq
    obtain ⟨k, rfl⟩ : ∃ k : Nat, p = (k : Int) := ⟨p.toNat, by omega⟩
    have hk : k < S.length := by omega
    have hk2 : (k : Int) < (S.length : Int) := by omega
    simp only [Int.toNat_natCast]
    obtain ⟨b, o, rfl, c0, c1, c2, c3, c4, ⟨ka, kc, c5, _⟩, c6, c7⟩ := hS k hk
    have hbw : b < w.heap.size := World.block_lt_of_cell? w ⟨b, o + k * 8, none⟩ c0
    clear hS hq'
    generalize nd S k = x at *
    unfold holdX
    obtain ⟨xu, xn, xt, xm, xp, xks, xh, xc⟩ := x
    dsimp only at *
    generalize xks.length = kl at *
    generalize S.length = n at *
    have d2 := rin_any u 1 xn
    generalize hb1 : decide (1 ≤ u ∧ u ≤ xn) = b1 at *
    cases b1 with
    | false =>
      clear hb1
      simp only [Bool.false_eq_true, if_false]
      go_enter Tryz.func41, Tryz.ntmps41
      go_wp2_with fail
      go_big_quiet ((first | (go_at_call_of 36 (Value.int .i64 0); exact Calls.quiet_of_same (d1 _)) | (go_at_call_of 36 (Value.int .i64 1); exact Calls.quiet_of_same (d2 _))))
      go_wp2
      go_ret
      exact ⟨rfl, Below.drewNs (((Below.refl _ _).alloc (Nat.le_refl _) _).alloc (by simp) _) _⟩
    | true =>
      have hb2 : 1 ≤ u ∧ u ≤ xn := of_decide_eq_true hb1
      clear hb1
      simp only [if_true]
      cases xu with
      | false =>
        simp only [Bool.false_eq_true, if_false]
        go_enter Tryz.func41, Tryz.ntmps41
        go_wp2_with fail
        go_big_quiet ((first | (go_at_call_of 36 (Value.int .i64 0); exact Calls.quiet_of_same (d1 _)) | (go_at_call_of 36 (Value.int .i64 1); exact Calls.quiet_of_same (d2 _))))
        go_wp2
        go_big_quiet (fail)
        go_wp2
        go_ret
        exact ⟨rfl, Below.drewNs (Below.drewNs (((Below.refl _ _).alloc (Nat.le_refl _) _).alloc (by simp) _) _) _⟩
      | true =>
        simp only [if_true]
        by_cases he : xn = u
        · subst he
          simp only [if_true]
          have hlt : decide (xn < xn) = false := decide_eq_false (by omega)
          go_enter Tryz.func41, Tryz.ntmps41
          go_wp2_with fail
          go_big_quiet ((first | (go_at_call_of 36 (Value.int .i64 0); exact Calls.quiet_of_same (d1 _)) | (go_at_call_of 36 (Value.int .i64 1); exact Calls.quiet_of_same (d2 _))))
          go_wp2
          go_big_quiet (fail)
          go_wp2
          go_ret
          exact ⟨rfl, Below.drewNs (Below.drewNs (((Below.refl _ _).alloc (Nat.le_refl _) _).alloc (by simp) _) _) _⟩
        · simp only [if_neg he]
          have hlt : decide (u < xn) = true := decide_eq_true (by omega)
          go_enter Tryz.func41, Tryz.ntmps41
          go_wp2_with fail
          go_big_quiet ((first | (go_at_call_of 36 (Value.int .i64 0); exact Calls.quiet_of_same (d1 _)) | (go_at_call_of 36 (Value.int .i64 1); exact Calls.quiet_of_same (d2 _))))
          go_wp2
          go_big_quiet (fail)
          go_wp2
          go_ret
          exact ⟨rfl, Below.drewNs (Below.drewNs (((Below.refl _ _).alloc (Nat.le_refl _) _).alloc (by simp) _) _) _⟩
end Go.Proofs.YtgjfmepbphfjoaaGreat

namespace Go.Proofs.YtgjfmepbphfjoaaGreat
open Go.RowKit

theorem nds_ext {S S' : List Nd} (hl : S.length = S'.length) (h : ∀ i, i < S.length → nd S i = nd S' i) : S = S' :=
  List.ext_getElem hl fun i hi hi' => by
    have := h i hi
    rwa [nd_elem hi, nd_elem hi'] at this

theorem nd_eq_iff (x y : Nd) : x = y ↔ (x.u = y.u ∧ x.n = y.n ∧ x.t = y.t ∧ x.m = y.m ∧ x.p = y.p ∧ x.ks = y.ks ∧ x.h = y.h ∧ x.c = y.c) := by
  constructor
  · rintro rfl
    exact ⟨rfl, rfl, rfl, rfl, rfl, rfl, rfl, rfl⟩
  · obtain ⟨a1, a2, a3, a4, a5, a6, a7, a8⟩ := x
    obtain ⟨b1, b2, b3, b4, b5, b6, b7, b8⟩ := y
    rintro ⟨rfl, rfl, rfl, rfl, rfl, rfl, rfl, rfl⟩
    rfl

theorem sameNode_eq (x y : Nd) (ka ka' : Option Addr) (kc kc' : Nat) (w : World) (hbig : x.ks.length ≤ 9223372036854775807) (h1 : IntsAt w ka x.ks) (h2 : IntsAt w ka' y.ks) :
    Calls Tryz.prog 78 #[.agg #[.bool x.u, .int .i64 x.n, .int .i64 x.t, .int .i64 x.m, .int .i64 x.p, .slice ka x.ks.length kc, .int .i64 x.h, .bool x.c], .agg #[.bool y.u, .int .i64 y.n, .int .i64 y.t, .int .i64 y.m, .int .i64 y.p, .slice ka' y.ks.length kc', .int .i64 y.h, .bool y.c]] w fun e w' => ∃ r : Bool, e = .returned (.bool r) ∧ Below w.heap.size w w' ∧ (r = true ↔ x = y) := by
  refine (sameNode_any x.u y.u x.n y.n x.t y.t x.m y.m x.p y.p x.ks y.ks ka ka' kc kc' x.h y.h x.c y.c w hbig h1 h2).mono ?_
  rintro e w' ⟨rfl, hb⟩
  exact ⟨_, rfl, hb, by rw [decide_eq_true_iff, nd_eq_iff]⟩

set_option maxHeartbeats 1000000 in
theorem equalNodes_any (a a' : Option Addr) (c c' : Nat) (S S' : List Nd) (w : World) (hN : S.length ≤ 9223372036854775807) (hB : Big S) (h1 : NdsAt w a S) (h2 : NdsAt w a' S') :
    Calls Tryz.prog 77 #[.slice a S.length c, .slice a' S'.length c', .func (.func 78) #[] #[]] w fun e w' => ∃ r : Bool, e = .returned (.bool r) ∧ Below w.heap.size w w' ∧ (r = true ↔ S = S') := by
  have eg := enters_of Tryz.func78 (by kernel_rfl) rfl
  by_cases hl : S.length = S'.length
  · have E1 : Hid ((∀ i, i < S.length → nd S i = nd S' i) → S = S') := fun h => nds_ext hl h
    have E2 : Hid (∀ i, nd S i ≠ nd S' i → S ≠ S') := fun i h e => h (by rw [e])
    have H1 : Hid (NdsAt w a S) := h1
    have H2 : Hid (NdsAt w a' S') := h2
    have HB : Hid (Big S) := hB
    have HL : Hid (S'.length = S.length) := hl.symm
    rw [← hl]
    clear h1 h2 hB hl
    generalize hn : S.length = n at *
    have HN : Hid _ := hn
    clear hn
    go_enter Tryz.func77, Tryz.ntmps77
    go_wp2
    go_loopg [17] n (fun g s17 wr => ∃ k : Nat, k ≤ n ∧ n - k ≤ g ∧ s17 = .int .i64 k ∧ Below w.heap.size w wr ∧ Hid (∀ i, i < k → nd S i = nd S' i))
    case atStart => exact ⟨0, by omega, by omega, rfl, Below.refl _ _, fun i hi => by omega⟩
    case round =>
      obtain ⟨k, hk, hg, rfl, hb, A⟩ := hrel
      by_cases hlt : k < n
      · have hlt2 : (k : Int) < (n : Int) := by omega
        obtain ⟨b, o, rfl, c0, c1, c2, c3, c4, ⟨ka, kc, c5, hk1⟩, c6, c7⟩ := (H1.out.below hb) k (by rw [HN.out]; exact hlt)
        obtain ⟨b', o', rfl, e0, e1, e2, e3, e4, ⟨ka', kc', e5, hk2⟩, e6, e7⟩ := (H2.out.below hb) k (by rw [HL.out]; exact hlt)
        have hbb := World.block_lt_of_cell? _ _ c0
        have hbb' := World.block_lt_of_cell? _ _ e0
        have d1 := fun o1 o2 => sameNode_eq (nd S k) (nd S' k) ka ka' kc kc' ((wr.alloc o1).alloc o2) (HB.out k (by rw [HN.out]; exact hlt)) (hk1.below (two_below _ _ _)) (hk2.below (two_below _ _ _))
        have EK := E2.out k
        have EK2 : Hid _ := EK
        have KK : Hid (nd S k = nd S' k → ∀ i, i < k + 1 → nd S i = nd S' i) := fun h i hi => by
          by_cases e : i = k
          · subst e; exact h
          · exact A.out i (by omega)
        clear EK hk1 hk2
        have D1 : Hid _ := d1
        clear d1
        generalize nd S k = x at *
        generalize nd S' k = y at *
        go_wp2_with fail
        refine (D1.out _ _).mono ?_
        rintro e w3 ⟨r, rfl, hb3, hr⟩
        cases r with
        | true =>
          have HR : Hid _ := hr.1 rfl
          clear hr
          go_wp2
          go_roundg (n - (k + 1))
          case measure => omega
          case rel => exact ⟨k + 1, by omega, by omega, by go_num, (hb.trans ((two_below _ _ _).mono hb.size)).trans (hb3.mono (by simp; have := hb.size; omega)), KK.out HR.out⟩
        | false =>
          have HR : Hid (S ≠ S') := EK2.out fun e => by have := hr.2 e; cases this
          clear hr
          go_wp2
          go_ret
          exact ⟨false, rfl, (hb.trans ((two_below _ _ _).mono hb.size)).trans (hb3.mono (by simp; have := hb.size; omega)), ⟨fun h => (by cases h), fun h => absurd h HR.out⟩⟩
      · have : k = n := by omega
        subst this
        go_wp2
        go_ret
        exact ⟨true, rfl, hb, ⟨fun _ => E1.out A.out, fun _ => rfl⟩⟩
  · have hl' : ¬ ((S.length : Int) = (S'.length : Int)) := by omega
    have HNE : Hid (S ≠ S') := fun e => hl (by rw [e])
    clear h1 h2 hB
    generalize S.length = n at *
    generalize S'.length = n' at *
    go_enter Tryz.func77, Tryz.ntmps77
    go_wp2
    go_ret
    exact ⟨false, rfl, Below.refl _ _, ⟨fun h => (by cases h), fun h => absurd h HNE.out⟩⟩

set_option maxHeartbeats 400000 in
theorem same_any (a a' : Option Addr) (c c' : Nat) (S S' : List Nd) (w : World) (hN : S.length ≤ 9223372036854775807) (hB : Big S) (h1 : NdsAt w a S) (h2 : NdsAt w a' S') :
    Calls Tryz.prog 30 #[.agg #[.slice a S.length c], .agg #[.slice a' S'.length c']] w fun e w' => ∃ r : Bool, e = .returned (.bool r) ∧ Below w.heap.size w w' ∧ (r = true ↔ S = S') := by
  have D1 : Hid _ := fun o1 o2 => equalNodes_any a a' c c' S S' ((w.alloc o1).alloc o2) hN hB (h1.below (two_below _ _ _)) (h2.below (two_below _ _ _))
  clear h1 h2 hB
  generalize S.length = n at *
  generalize S'.length = n' at *
  go_enter Tryz.func30, Tryz.ntmps30
  go_wp2_with (go_at_call 77; refine (D1.out _ _).mono ?_; rintro e w1 ⟨r, rfl, hb, hr⟩; have HR : Hid _ := hr; clear hr)
  go_ret
  exact ⟨r, rfl, (two_below _ _ _).trans (hb.mono (by simp; omega)), HR.out⟩
end Go.Proofs.YtgjfmepbphfjoaaGreat

namespace Go.Proofs.YtgjfmepbphfjoaaGreat
open Go.RowKit

set_option maxRecDepth 100000 in
set_option maxHeartbeats 4000000 in
theorem rSame_any (a a' : Option Addr) (c c' : Nat) (S S' : List Nd) (w : World) (hN : S.length ≤ 9223372036854775807) (hB : Big S) (h1 : NdsAt w a S) (h2 : NdsAt w a' S') :
    Calls Tryz.prog 33 #[.agg #[.slice a S.length c], .agg #[.slice a' S'.length c']] w fun e w' => ∃ r : Bool, e = .returned (.bool r) ∧ Below w.heap.size w w' ∧ (r = true ↔ S = S') := by
  by_cases hl : S.length = S'.length
  · have E1 : Hid ((∀ i, i < S.length → nd S i = nd S' i) → S = S') := fun h => nds_ext hl h
    have E2 : Hid (∀ i, nd S i ≠ nd S' i → S ≠ S') := fun i h e => h (by rw [e])
    have H1 : Hid (NdsAt w a S) := h1
    have H2 : Hid (NdsAt w a' S') := h2
    have HB : Hid (Big S) := hB
    have HL : Hid (S'.length = S.length) := hl.symm
    rw [← hl]
    clear h1 h2 hB hl
    generalize hn : S.length = n at *
    have HN : Hid _ := hn
    clear hn
    go_enter Tryz.func33, Tryz.ntmps33
    go_wp2
    go_loopg [18] n (fun g s18 wr => ∃ k : Nat, k ≤ n ∧ n - k ≤ g ∧ s18 = .int .i64 k ∧ Hid (Below (w.heap.size + 1 + 1) ((w.alloc (.cells #[.slice a n c] 24)).alloc (.cells #[.slice a' n c'] 24)) wr) ∧ Hid (∀ i, i < k → nd S i = nd S' i))
    case atStart => exact ⟨0, by omega, by omega, rfl, Below.refl _ _, fun i hi => by omega⟩
    case round =>
      obtain ⟨k, hk, hg, rfl, HBr, A⟩ := hrel
      have l0 : wr.cell? ⟨w.heap.size, 0, none⟩ = some (.slice a n c) := (HBr.out.cell (by simp; omega)).trans (by go_simp)
      have l1 : wr.cell? ⟨w.heap.size + 1, 0, none⟩ = some (.slice a' n c') := (HBr.out.cell (by simp)).trans (by go_simp)
      have r0 := World.block_lt_of_cell? _ _ l0
      have r1 := World.block_lt_of_cell? _ _ l1
      have HW : Hid (Below w.heap.size w wr) := (two_below _ _ _).trans (HBr.out.mono (by omega))
      have hsr := HBr.out.size
      simp only [World.size_alloc] at hsr
      by_cases hlt : k < n
      · have hlt2 : (k : Int) < (n : Int) := by omega
        obtain ⟨b, o, rfl, c0, c1, c2, c3, c4, ⟨ka, kc, c5, hk1⟩, c6, c7⟩ := (H1.out.below HW.out) k (by rw [HN.out]; exact hlt)
        obtain ⟨b', o', rfl, e0, e1, e2, e3, e4, ⟨ka', kc', e5, hk2⟩, e6, e7⟩ := (H2.out.below HW.out) k (by rw [HL.out]; exact hlt)
        have hbb := World.block_lt_of_cell? _ _ c0
        have hbb' := World.block_lt_of_cell? _ _ e0
        have d1 := fun o1 o2 => equal_any ka ka' kc kc' (nd S k).ks (nd S' k).ks ((wr.alloc o1).alloc o2) (HB.out k (by rw [HN.out]; exact hlt)) (hk1.below (two_below _ _ _)) (hk2.below (two_below _ _ _))
        have EK2 : Hid _ := E2.out k
        have KK : Hid (nd S k = nd S' k → ∀ i, i < k + 1 → nd S i = nd S' i) := fun h i hi => by
          by_cases e : i = k
          · subst e; exact h
          · exact A.out i (by omega)
        have HB2 : Hid (∀ o1 o2, Below w.heap.size w ((wr.alloc o1).alloc o2)) := fun o1 o2 => HW.out.trans ((two_below _ _ _).mono HW.out.size)
        have HBW : Hid (∀ o1 o2 w3, Below ((wr.alloc o1).alloc o2).heap.size ((wr.alloc o1).alloc o2) w3 → Below (w.heap.size + 1 + 1) ((w.alloc (.cells #[.slice (some ⟨b, o, none⟩) n c] 24)).alloc (.cells #[.slice (some ⟨b', o', none⟩) n c'] 24)) w3) := fun o1 o2 w3 hb3 => (HBr.out.trans ((two_below wr o1 o2).mono (by omega))).trans (hb3.mono (by simp; omega))
        clear hk1 hk2
        generalize nd S k = x at *
        generalize nd S' k = y at *
        obtain ⟨xu, xn, xt, xm, xp, xks, xh, xc⟩ := x
        obtain ⟨yu, yn, yt, ym, yp, yks, yh, yc⟩ := y
        dsimp only at *
        generalize hr : decide (xks = yks) = r at *
        have HR : Hid (r = true ↔ xks = yks) := by show _ ↔ _; rw [← hr]; exact decide_eq_true_iff
        have D1 : Hid _ := d1
        clear hr d1
        generalize xks.length = XL at *
        generalize yks.length = YL at *
        by_cases eu : xu = yu
        · subst eu
          by_cases en : xn = yn
          · subst en
            by_cases et : xt = yt
            · subst et
              by_cases em : xm = ym
              · subst em
                by_cases ep : xp = yp
                · subst ep
                  by_cases eh : xh = yh
                  · subst eh
                    by_cases ec : xc = yc
                    · subst ec
                      cases r with
                      | true =>
                        have HT : Hid (∀ i, i < k + 1 → nd S i = nd S' i) := KK.out (by rw [HR.out.1 rfl])
                        go_wp2_with (go_at_call 19; refine (D1.out _ _).mono ?_; rintro e w3 ⟨rfl, hb3⟩)
                        go_roundg (n - (k + 1))
                        case measure => omega
                        case rel => exact ⟨k + 1, by omega, by omega, by go_num, HBW.out _ _ _ hb3, HT⟩
                      | false =>
                        have HF : Hid (S ≠ S') := EK2.out (fun e => by have h := HR.out.2 (congrArg Nd.ks e); cases h)
                        go_wp2_with (go_at_call 19; refine (D1.out _ _).mono ?_; rintro e w3 ⟨rfl, hb3⟩)
                        go_ret
                        first | exact ⟨false, rfl, (two_below _ _ _).trans ((HBW.out _ _ _ hb3).mono (by omega)), ⟨fun h => (by cases h), fun h => absurd h HF.out⟩⟩ | exact Or.inl ⟨rfl, (two_below _ _ _).trans ((HBW.out _ _ _ hb3).mono (by omega)), HF.out⟩
                    · have HF : Hid (S ≠ S') := EK2.out (fun e => ec (congrArg Nd.c e))
                      cases xc <;> cases yc
                      · exact absurd rfl ec
                      · go_wp2
                        go_ret
                        first | exact ⟨false, rfl, HB2.out _ _, ⟨fun h => (by cases h), fun h => absurd h HF.out⟩⟩ | exact Or.inl ⟨rfl, HB2.out _ _, HF.out⟩
                      · go_wp2
                        go_ret
                        first | exact ⟨false, rfl, HB2.out _ _, ⟨fun h => (by cases h), fun h => absurd h HF.out⟩⟩ | exact Or.inl ⟨rfl, HB2.out _ _, HF.out⟩
                      · exact absurd rfl ec
                  · have HF : Hid (S ≠ S') := EK2.out (fun e => eh (congrArg Nd.h e))
                    have bh : (xh == yh) = false := beq_eq_false_iff_ne.2 eh
                    go_wp2
                    go_ret
                    first | exact ⟨false, rfl, HB2.out _ _, ⟨fun h => (by cases h), fun h => absurd h HF.out⟩⟩ | exact Or.inl ⟨rfl, HB2.out _ _, HF.out⟩
                · have HF : Hid (S ≠ S') := EK2.out (fun e => ep (congrArg Nd.p e))
                  have bp : (xp == yp) = false := beq_eq_false_iff_ne.2 ep
                  go_wp2
                  go_ret
                  first | exact ⟨false, rfl, HB2.out _ _, ⟨fun h => (by cases h), fun h => absurd h HF.out⟩⟩ | exact Or.inl ⟨rfl, HB2.out _ _, HF.out⟩
              · have HF : Hid (S ≠ S') := EK2.out (fun e => em (congrArg Nd.m e))
                have bm : (xm == ym) = false := beq_eq_false_iff_ne.2 em
                go_wp2
                go_ret
                first | exact ⟨false, rfl, HB2.out _ _, ⟨fun h => (by cases h), fun h => absurd h HF.out⟩⟩ | exact Or.inl ⟨rfl, HB2.out _ _, HF.out⟩
            · have HF : Hid (S ≠ S') := EK2.out (fun e => et (congrArg Nd.t e))
              have bt : (xt == yt) = false := beq_eq_false_iff_ne.2 et
              go_wp2
              go_ret
              first | exact ⟨false, rfl, HB2.out _ _, ⟨fun h => (by cases h), fun h => absurd h HF.out⟩⟩ | exact Or.inl ⟨rfl, HB2.out _ _, HF.out⟩
          · have HF : Hid (S ≠ S') := EK2.out (fun e => en (congrArg Nd.n e))
            have bn : (xn == yn) = false := beq_eq_false_iff_ne.2 en
            go_wp2
            go_ret
            first | exact ⟨false, rfl, HB2.out _ _, ⟨fun h => (by cases h), fun h => absurd h HF.out⟩⟩ | exact Or.inl ⟨rfl, HB2.out _ _, HF.out⟩
        · have HF : Hid (S ≠ S') := EK2.out (fun e => eu (congrArg Nd.u e))
          cases xu <;> cases yu
          · exact absurd rfl eu
          · go_wp2
            go_ret
            first | exact ⟨false, rfl, HB2.out _ _, ⟨fun h => (by cases h), fun h => absurd h HF.out⟩⟩ | exact Or.inl ⟨rfl, HB2.out _ _, HF.out⟩
          · go_wp2
            go_ret
            first | exact ⟨false, rfl, HB2.out _ _, ⟨fun h => (by cases h), fun h => absurd h HF.out⟩⟩ | exact Or.inl ⟨rfl, HB2.out _ _, HF.out⟩
          · exact absurd rfl eu
      · have : k = n := by omega
        subst this
        go_wp2
        go_ret
        first | exact ⟨true, rfl, HW.out, ⟨fun _ => E1.out A.out, fun _ => rfl⟩⟩ | exact Or.inr ⟨rfl, HW.out, E1.out A.out⟩
  · have hl' : ¬ ((S.length : Int) = (S'.length : Int)) := by omega
    have HNE : Hid (S ≠ S') := fun e => hl (by rw [e])
    clear h1 h2 hB
    generalize S.length = n at *
    generalize S'.length = n' at *
    go_enter Tryz.func33, Tryz.ntmps33
    go_wp2
    go_ret
    first | exact ⟨false, rfl, two_below _ _ _, ⟨fun h => (by cases h), fun h => absurd h HNE.out⟩⟩ | exact Or.inl ⟨rfl, two_below _ _ _, HNE.out⟩
end Go.Proofs.YtgjfmepbphfjoaaGreat

namespace Go.Proofs.YtgjfmepbphfjoaaGreat
open Go.RowKit
set_option linter.unusedVariables false

theorem hand_ext {A B : List (Int × Int)} (hl : A.length = B.length) (h : ∀ i, i < A.length → A.getD i (0, 0) = B.getD i (0, 0)) : A = B := by
  refine List.ext_getElem hl fun i h1 h2 => ?_
  have := h i h1
  rwa [getD_elem _ _ h1, getD_elem _ _ h2] at this

set_option maxRecDepth 100000 in
set_option maxHeartbeats 1000000 in
theorem equalHands_any (a a' : Option Addr) (c c' : Nat) (A B : List (Int × Int)) (w : World) (hN : A.length ≤ 9223372036854775807) (h1 : HandsAt w a A) (h2 : HandsAt w a' B) :
    Calls Tryz.prog 31 #[.slice a A.length c, .slice a' B.length c'] w fun e w' => ∃ r : Bool, e = .returned (.bool r) ∧ Below w.heap.size w w' ∧ (r = true ↔ A = B) := by
  by_cases hl : A.length = B.length
  · have E1 : Hid ((∀ i, i < A.length → A.getD i (0, 0) = B.getD i (0, 0)) → A = B) := fun h => hand_ext hl h
    have E2 : Hid (∀ i, A.getD i (0, 0) ≠ B.getD i (0, 0) → A ≠ B) := fun i h e => h (by rw [e])
    have H1 : Hid (HandsAt w a A) := h1
    have H2 : Hid (HandsAt w a' B) := h2
    have HL : Hid (B.length = A.length) := hl.symm
    rw [← hl]
    clear h1 h2 hl
    obtain ⟨n, hn⟩ : ∃ n, A.length = n := ⟨_, rfl⟩
    have HN : Hid (A.length = n) := hn
    rw [hn] at hN E1 HL ⊢
    clear hn
    go_enter Tryz.func31, Tryz.ntmps31
    go_wp2
    go_loopg [13] n (fun g s13 wr => ∃ k : Nat, k ≤ n ∧ n - k ≤ g ∧ s13 = .int .i64 k ∧ Below w.heap.size w wr ∧ Hid (∀ i, i < k → A.getD i (0, 0) = B.getD i (0, 0)))
    case atStart => exact ⟨0, by omega, by omega, rfl, Below.refl _ _, fun i hi => by omega⟩
    case round =>
      obtain ⟨k, hk, hg, rfl, hb, AA⟩ := hrel
      by_cases hlt : k < n
      · have hlt2 : (k : Int) < (n : Int) := by omega
        obtain ⟨b, o, rfl, c0, c1⟩ := (H1.out.below hb) k (by rw [HN.out]; exact hlt)
        obtain ⟨b', o', rfl, e0, e1⟩ := (H2.out.below hb) k (by rw [HL.out]; exact hlt)
        have KK : Hid (A.getD k (0, 0) = B.getD k (0, 0) → ∀ i, i < k + 1 → A.getD i (0, 0) = B.getD i (0, 0)) := fun h i hi => by
          by_cases e : i = k
          · subst e; exact h
          · exact AA.out i (by omega)
        have EE : Hid _ := E2.out k
        generalize A.getD k (0, 0) = x at *
        generalize B.getD k (0, 0) = y at *
        obtain ⟨x0, x1⟩ := x
        obtain ⟨y0, y1⟩ := y
        dsimp only at c0 c1 e0 e1
        by_cases q0 : x0 = y0
        · subst q0
          by_cases q1 : x1 = y1
          · subst q1
            go_wp2_with fail
            go_quiet (fail)
            go_wp2
            go_roundg (n - (k + 1))
            case measure => omega
            case rel => exact ⟨k + 1, by omega, by omega, by go_num, belowN' hb _, KK.out trivial⟩
          · have q2 : (x1 == y1) = false := beq_eq_false_iff_ne.2 q1
            have q3 : decide (x1 = y1) = false := decide_eq_false q1
            have NE : Hid (A ≠ B) := EE.out (fun h => q1 (congrArg Prod.snd h))
            go_wp2_with fail
            go_quiet (fail)
            go_wp2
            go_ret
            exact ⟨false, rfl, belowN' hb _, ⟨fun h => (by cases h), fun h => absurd h NE.out⟩⟩
        · have q2 : (x0 == y0) = false := beq_eq_false_iff_ne.2 q0
          have q3 : decide (x0 = y0) = false := decide_eq_false q0
          have NE : Hid (A ≠ B) := EE.out (fun h => q0 (congrArg Prod.fst h))
          go_wp2_with fail
          go_quiet (fail)
          go_wp2
          go_ret
          exact ⟨false, rfl, belowN' hb _, ⟨fun h => (by cases h), fun h => absurd h NE.out⟩⟩
      · have : k = n := by omega
        subst this
        have Y : Hid (A = B) := E1.out AA.out
        go_wp2
        go_ret
        exact ⟨true, rfl, hb, ⟨fun _ => Y.out, fun _ => rfl⟩⟩
  · have hne : A ≠ B := fun e => hl (by rw [e])
    have HNE : Hid (A ≠ B) := hne
    have hl2 : decide ((A.length : Int) = (B.length : Int)) = false := decide_eq_false (by omega)
    have hl3 : ((A.length : Int) == (B.length : Int)) = false := beq_eq_false_iff_ne.2 (by omega)
    have hl4 : (A.length == B.length) = false := beq_eq_false_iff_ne.2 hl
    clear h1 h2 hne
    generalize A.length = n at *
    generalize B.length = m at *
    go_enter Tryz.func31, Tryz.ntmps31
    go_wp2
    go_ret
    exact ⟨false, rfl, Below.refl _ _, ⟨fun h => (by cases h), fun h => absurd h HNE.out⟩⟩

theorem rl_ext {R Q : Rl} : R = Q ↔ R.s = Q.s ∧ R.hs = Q.hs ∧ R.i = Q.i ∧ R.t = Q.t := by
  cases R
  cases Q
  simp

set_option maxRecDepth 100000 in
set_option maxHeartbeats 2000000 in
theorem rsameR_any (A B : RA) (R Q : Rl) (w : World) (hB : BigR R) (h1 : RlAt w A R) (h2 : RlAt w B Q) :
    Calls Tryz.prog 14 #[rlV A R, rlV B Q] w fun e w' => ∃ r : Bool, e = .returned (.bool r) ∧ Below w.heap.size w w' ∧ (r = true ↔ R = Q) := by
  obtain ⟨a0, a1, a2, a3, c0, c1, c2, c3⟩ := A
  obtain ⟨b0, b1, b2, b3, d0, d1, d2, d3⟩ := B
  have EX : Hid (R = Q ↔ R.s = Q.s ∧ R.hs = Q.hs ∧ R.i = Q.i ∧ R.t = Q.t) := rl_ext
  obtain ⟨g1, g2, g3, g4, g5, g6⟩ := hB
  have D1 : Hid (∀ W, Below w.heap.size w W → _) := fun W hW => rSame_any a0 b0 c0 d0 R.s Q.s W g1 g2 (h1.1.below hW) (h2.1.below hW)
  have D2 : Hid (∀ W, Below w.heap.size w W → _) := fun W hW => equalHands_any a1 b1 c1 d1 R.hs Q.hs W g3 (h1.2.1.below hW) (h2.2.1.below hW)
  have D3 : Hid (∀ W, Below w.heap.size w W → _) := fun W hW => rgsame_any a2 b2 c2 d2 R.i Q.i W g4 g5 (h1.2.2.1.below hW) (h2.2.2.1.below hW)
  have D4 : Hid (∀ W, Below w.heap.size w W → Calls Tryz.prog 19 #[.slice a3 R.t.length c3, .slice b3 Q.t.length d3] W fun e w' => ∃ r : Bool, e = .returned (.bool r) ∧ Below W.heap.size W w' ∧ (r = true ↔ R.t = Q.t)) := fun W hW => (equal_any a3 b3 c3 d3 R.t Q.t W g6 (h1.2.2.2.below hW) (h2.2.2.2.below hW)).mono fun e w' ⟨e1, hb⟩ => ⟨_, e1, hb, decide_eq_true_iff⟩
  clear h1 h2 g1 g2 g3 g4 g5 g6
  dsimp only [rlV]
  generalize R.s = x0 at *
  generalize Q.s = y0 at *
  generalize R.hs = x1 at *
  generalize Q.hs = y1 at *
  generalize R.i = x2 at *
  generalize Q.i = y2 at *
  generalize R.t = x3 at *
  generalize Q.t = y3 at *
  generalize x0.length = m0 at *
  generalize y0.length = n0 at *
  generalize x1.length = m1 at *
  generalize y1.length = n1 at *
  generalize x2.length = m2 at *
  generalize y2.length = n2 at *
  generalize x3.length = m3 at *
  generalize y3.length = n3 at *
  go_enter Tryz.func14, Tryz.ntmps14
  go_wp2_with fail
  refine Calls.mono (D1.out _ (two_belowS _ _ _)) ?_
  rintro e W1 ⟨r1, rfl, hb, hr⟩
  have HR1 : Hid _ := hr
  clear hr
  have HB : Hid (Below w.heap.size w W1) := (two_belowS w _ _).trans (hb.mono (by simp; omega))
  have l0 := keepC (alloc_cell1 w #[.slice a0 m0 c0, .slice a1 m1 c1, .slice a2 m2 c2, .slice a3 m3 c3] 31 0 (.cells #[.slice b0 n0 d0, .slice b1 n1 d1, .slice b2 n2 d2, .slice b3 n3 d3] 31) rfl) hb
  have m0' := keepC (alloc_cell2 w #[.slice b0 n0 d0, .slice b1 n1 d1, .slice b2 n2 d2, .slice b3 n3 d3] 31 0 (.cells #[.slice a0 m0 c0, .slice a1 m1 c1, .slice a2 m2 c2, .slice a3 m3 c3] 31) rfl) hb
  have l1 := keepC (alloc_cell1 w #[.slice a0 m0 c0, .slice a1 m1 c1, .slice a2 m2 c2, .slice a3 m3 c3] 31 1 (.cells #[.slice b0 n0 d0, .slice b1 n1 d1, .slice b2 n2 d2, .slice b3 n3 d3] 31) rfl) hb
  have m1' := keepC (alloc_cell2 w #[.slice b0 n0 d0, .slice b1 n1 d1, .slice b2 n2 d2, .slice b3 n3 d3] 31 1 (.cells #[.slice a0 m0 c0, .slice a1 m1 c1, .slice a2 m2 c2, .slice a3 m3 c3] 31) rfl) hb
  have l2 := keepC (alloc_cell1 w #[.slice a0 m0 c0, .slice a1 m1 c1, .slice a2 m2 c2, .slice a3 m3 c3] 31 2 (.cells #[.slice b0 n0 d0, .slice b1 n1 d1, .slice b2 n2 d2, .slice b3 n3 d3] 31) rfl) hb
  have m2' := keepC (alloc_cell2 w #[.slice b0 n0 d0, .slice b1 n1 d1, .slice b2 n2 d2, .slice b3 n3 d3] 31 2 (.cells #[.slice a0 m0 c0, .slice a1 m1 c1, .slice a2 m2 c2, .slice a3 m3 c3] 31) rfl) hb
  have l3 := keepC (alloc_cell1 w #[.slice a0 m0 c0, .slice a1 m1 c1, .slice a2 m2 c2, .slice a3 m3 c3] 31 3 (.cells #[.slice b0 n0 d0, .slice b1 n1 d1, .slice b2 n2 d2, .slice b3 n3 d3] 31) rfl) hb
  have m3' := keepC (alloc_cell2 w #[.slice b0 n0 d0, .slice b1 n1 d1, .slice b2 n2 d2, .slice b3 n3 d3] 31 3 (.cells #[.slice a0 m0 c0, .slice a1 m1 c1, .slice a2 m2 c2, .slice a3 m3 c3] 31) rfl) hb
  clear hb D1
  cases r1
  · go_wp2_with fail
    go_ret
    exact ⟨_, rfl, HB.out, ⟨fun h => (by cases h), fun h => (by have := HR1.out.2 ((EX.out.1 h).1); cases this)⟩⟩
  go_wp2_with fail
  refine Calls.mono (D2.out _ HB.out) ?_
  rintro e W2 ⟨r2, rfl, hb, hr⟩
  have HR2 : Hid _ := hr
  clear hr
  have HB : Hid (Below w.heap.size w W2) := HB.out.trans (hb.mono HB.out.size)
  have l0 := keepC l0 hb
  have m0' := keepC m0' hb
  have l1 := keepC l1 hb
  have m1' := keepC m1' hb
  have l2 := keepC l2 hb
  have m2' := keepC m2' hb
  have l3 := keepC l3 hb
  have m3' := keepC m3' hb
  clear hb D2
  cases r2
  · go_wp2_with fail
    go_ret
    exact ⟨_, rfl, HB.out, ⟨fun h => (by cases h), fun h => (by have := HR2.out.2 ((EX.out.1 h).2.1); cases this)⟩⟩
  go_wp2_with fail
  refine Calls.mono (D3.out _ HB.out) ?_
  rintro e W3 ⟨r3, rfl, hb, hr⟩
  have HR3 : Hid _ := hr
  clear hr
  have HB : Hid (Below w.heap.size w W3) := HB.out.trans (hb.mono HB.out.size)
  have l0 := keepC l0 hb
  have m0' := keepC m0' hb
  have l1 := keepC l1 hb
  have m1' := keepC m1' hb
  have l2 := keepC l2 hb
  have m2' := keepC m2' hb
  have l3 := keepC l3 hb
  have m3' := keepC m3' hb
  clear hb D3
  cases r3
  · go_wp2_with fail
    go_ret
    exact ⟨_, rfl, HB.out, ⟨fun h => (by cases h), fun h => (by have := HR3.out.2 ((EX.out.1 h).2.2.1); cases this)⟩⟩
  go_wp2_with fail
  refine Calls.mono (D4.out _ HB.out) ?_
  rintro e W4 ⟨r4, rfl, hb, hr⟩
  have HR4 : Hid _ := hr
  clear hr
  have HB : Hid (Below w.heap.size w W4) := HB.out.trans (hb.mono HB.out.size)
  have l0 := keepC l0 hb
  have m0' := keepC m0' hb
  have l1 := keepC l1 hb
  have m1' := keepC m1' hb
  have l2 := keepC l2 hb
  have m2' := keepC m2' hb
  have l3 := keepC l3 hb
  have m3' := keepC m3' hb
  clear hb D4
  go_wp2_with fail
  go_ret
  exact ⟨_, rfl, HB.out, ⟨fun h => EX.out.2 ⟨HR1.out.1 trivial, HR2.out.1 trivial, HR3.out.1 trivial, HR4.out.1 h⟩, fun h => HR4.out.2 (EX.out.1 h).2.2.2⟩⟩
end Go.Proofs.YtgjfmepbphfjoaaGreat
