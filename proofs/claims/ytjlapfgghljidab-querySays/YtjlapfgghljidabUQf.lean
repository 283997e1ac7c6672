/-
  What the program and the reference answer alike: Fits, Find (for QuerySays); the walk of QuerySays.
-/
import Derived.Test.YtjlapfgghljidabUQe
import Derived.Test.YtjlapfgghljidabUWoVhVla
namespace Go.Proofs.Ytjlapfgghljidab
open Go.RowKit

theorem tcheck_is_find (S : List Nd) (p u : Int) : tcheckE S [(p, u)] = findE S p u := by
  unfold tcheckE findE handsE handsE
  by_cases h : holdsE S p u = 0
  · simp [h]
  · simp [h]

abbrev FitAns (f : Nat) (S : List Nd) (p u : Int) (qa : Option Addr) (qc : Nat) (q : List Tst) (B : Bool) (E : Int) : Prop := ∀ (a : Option Addr) (c : Nat) W, NdsAt W a S → TestsAt W qa q →
  Calls Try.prog f #[.agg #[.slice a S.length c], .agg #[.int .i64 p, .int .i64 u], .slice qa q.length qc] W fun e w' => e = .returned (.tuple #[.bool B, .int .i64 E]) ∧ Below W.heap.size W w'
abbrev FndAns (f : Nat) (S : List Nd) (p u : Int) (qa : Option Addr) (qc : Nat) (q : List Tst) (L : List Int) (E : Int) : Prop := ∀ (a : Option Addr) (c : Nat) W, NdsAt W a S → TestsAt W qa q →
  Calls Try.prog f #[.agg #[.slice a S.length c], .agg #[.int .i64 p, .int .i64 u], .slice qa q.length qc] W fun e w' => ∃ a' c', e = .returned (.tuple #[.slice a' L.length c', .int .i64 E]) ∧ Below W.heap.size W w' ∧ IntsAt w' a' L

theorem fits_both (S : List Nd) (p u : Int) (qa : Option Addr) (qc : Nat) (q : List Tst) (hN : S.length ≤ 9223372036854775807) (hB : Big S) (hql : q.length ≤ 9223372036854775807) (hC : ∀ a c, RChk a c S) :
    ∃ B E, FitAns 13 S p u qa qc q B E ∧ FitAns 15 S p u qa qc q B E := by
  have ht := tcheck_is_find S p u
  by_cases hE : findE S p u = 0
  · obtain ⟨wf, k, rfl, hk, _⟩ := tcheck_one (ht.trans hE)
    by_cases hq : qcheckE q = 0
    · exact ⟨isSoF S k q, 0, fun a c W h1 h2 => fits_ok a c S k u qa qc q W wf hk hE h1 h2 hq, fun a c W h1 h2 => rFits_ok a c S k u qa qc q W wf (hC a c) h1 hk (ht.trans hE) h2 hq⟩
    · exact ⟨false, qcheckE q, fun a c W h1 h2 => fits_bad a c S k u _ qa qc q W wf hk hE h1 hql h2 rfl hq, fun a c W h1 h2 => rFits_bad a c S k u _ qa qc q W hN (hC a c) h1 (ht.trans hE) hql h2 rfl hq⟩
  · exact ⟨false, findE S p u, fun a c W h1 _ => fits_err a c S p u _ _ W hN hB h1 rfl hE, fun a c W h1 _ => rFits_err a c S p u _ _ W hN (hC a c) h1 ht hE⟩

theorem found_both (S : List Nd) (p u : Int) (qa : Option Addr) (qc : Nat) (q : List Tst) (hN : S.length ≤ 9223372036854775807) (hB : Big S) (hql : q.length ≤ 9223372036854775807) (hC : ∀ a c, RChk a c S) :
    ∃ L E, L.length ≤ 9223372036854775807 ∧ FndAns 14 S p u qa qc q L E ∧ FndAns 16 S p u qa qc q L E := by
  have nil : ∀ W, IntsAt W none [] := fun W i hi => absurd hi (Nat.not_lt_zero _)
  by_cases hE : tcheckE S [(p, u)] = 0
  · obtain ⟨wf, k, rfl, hk, hku, _⟩ := tcheck_one hE
    by_cases hq : qcheckE q = 0
    · refine ⟨foundF S k q, 0, ?_, fun a c W h1 h2 => (qfind_ok a c S k u qa qc q W wf hk hku hE h1 h2 hq).mono (fun e w' ⟨fa, fc, e1, hb, hi, _⟩ => ⟨fa, fc, e1, hb, hi⟩), fun a c W h1 h2 => (rFound_ok a c S k u qa qc q W wf hk hku hE h1 h2 hq (hC a c)).mono (fun e w' ⟨fa, fc, e1, hb, hi, _⟩ => ⟨fa, fc, e1, hb, hi⟩)⟩
      unfold foundF
      have h1 := List.length_filter_le (fun p => isSoF S p q) (orderS S k).tail
      have h2 := order_le wf hk
      have h3 := wf.small
      rw [List.length_tail] at h1
      unfold orderS at h1 ⊢
      omega
    · exact ⟨[], qcheckE q, by simp, fun a c W h1 h2 => (qfind_bad a c S k u _ qa qc q W wf hk hE h1 hql h2 rfl hq).mono (fun e w' ⟨e1, hb⟩ => ⟨none, 0, e1, hb, nil _⟩), fun a c W h1 h2 => (rFound_bad a c S k u _ qa qc q W wf hk (hC a c) h1 hE hql h2 rfl hq).mono (fun e w' ⟨e1, hb⟩ => ⟨none, 0, e1, hb, nil _⟩)⟩
  · exact ⟨[], tcheckE S [(p, u)], by simp, fun a c W h1 _ => (qfind_err a c S p u _ _ W hN hB h1 rfl hE).mono (fun e w' ⟨e1, hb⟩ => ⟨none, 0, e1, hb, nil _⟩), fun a c W h1 _ => (rFound_err a c S p u _ _ W hN (hC a c) h1 rfl hE).mono (fun e w' ⟨e1, hb⟩ => ⟨none, 0, e1, hb, nil _⟩)⟩

set_option maxRecDepth 100000 in
set_option maxHeartbeats 4000000 in
theorem querySays_any (G : SoughtOk) (a : Option Addr) (c : Nat) (S : List Nd) (p u : Int) (qa : Option Addr) (qc : Nat) (q : List Tst) (w : World) (hN : S.length ≤ 9223372036854775807) (hB : Big S) (hS : NdsAt w a S) (hql : q.length ≤ 9223372036854775807) (hQ : TestsAt w qa q) (hC : ∀ a c, RChk a c S) :
    Calls Try.prog 4 #[.agg #[.slice a S.length c], .agg #[.int .i64 p, .int .i64 u], .slice qa q.length qc] w fun e w' => e = .returned (.bool true) ∧ Below w.heap.size w w' := by
  obtain ⟨B, E1, DA, DA'⟩ := fits_both S p u qa qc q hN hB hql hC
  obtain ⟨L, E2, ll, DF, DF'⟩ := found_both S p u qa qc q hN hB hql hC
  have D1 : Hid (∀ W, NdsAt W a S → TestsAt W qa q → Calls Try.prog 13 #[.agg #[.slice a S.length c], .agg #[.int .i64 p, .int .i64 u], .slice qa q.length qc] W _) := fun W h1 h2 => DA a c W h1 h2
  have D2 : Hid (∀ W, NdsAt W a S → TestsAt W qa q → Calls Try.prog 14 #[.agg #[.slice a S.length c], .agg #[.int .i64 p, .int .i64 u], .slice qa q.length qc] W _) := fun W h1 h2 => DF a c W h1 h2
  have D3 : Hid (∀ W, NdsAt W a S → TestsAt W qa q → Calls Try.prog 15 #[.agg #[.slice a S.length c], .agg #[.int .i64 p, .int .i64 u], .slice qa q.length qc] W _) := fun W h1 h2 => DA' a c W h1 h2
  have D4 : Hid (∀ W, NdsAt W a S → TestsAt W qa q → Calls Try.prog 16 #[.agg #[.slice a S.length c], .agg #[.int .i64 p, .int .i64 u], .slice qa q.length qc] W _) := fun W h1 h2 => DF' a c W h1 h2
  have D5 : Hid (∀ w : World, Calls Try.prog 17 #[] w fun e w' => e = .returned (.bool true) ∧ Below w.heap.size w w') := G
  have D6 : Hid (∀ W, TestsAt W qa q → Calls Try.prog 18 #[.slice qa q.length qc] W _) := fun W h => qcheck_any qa qc q W hql h
  have D7 : Hid (∀ W, TestsAt W qa q → Calls Try.prog 19 #[.slice qa q.length qc] W _) := fun W h => rQChk_any qa qc q W hql h
  have D8 : Hid (∀ a1 c1 a2 c2 W, IntsAt W a1 L → IntsAt W a2 L → Calls Try.prog 20 #[.slice a1 L.length c1, .slice a2 L.length c2] W fun e w' => e = .returned (.bool true) ∧ Below W.heap.size W w') := fun a1 c1 a2 c2 W h1 h2 => by
    have h := equal_any a1 a2 c1 c2 L L W ll h1 h2
    rw [decide_eq_true rfl] at h
    exact h
  have HS : Hid (NdsAt w a S) := hS
  have HQ : Hid (TestsAt w qa q) := hQ
  clear hS hQ DA DA' DF DF' hC hB hN ll hql
  generalize qcheckE q = EQ at *
  generalize S.length = n at *
  generalize q.length = m at *
  generalize L.length = nL at *
  go_enter Try.func4, Try.ntmps4
  go_wp2_with fail
  refine Calls.mono (D1.out _ (HS.out.below (two_below _ _ _)) (HQ.out.below (two_below _ _ _))) ?_
  rintro e w1 ⟨rfl, hb⟩
  have HB1 : Hid (Below w.heap.size w w1) := (two_below _ _ _).trans (hb.mono (by first | (simp; done) | (simp; omega)))
  have s1 : w1.cell? ⟨w.heap.size, 0, none⟩ = some (.slice a n c) := keepC (by go_simp) hb
  have h1 : w1.cell? ⟨w.heap.size + 1, 0, none⟩ = some (.int .i64 p) := keepC (by go_simp) hb
  have k1 : w1.cell? ⟨w.heap.size + 1, 1, none⟩ = some (.int .i64 u) := keepC (by go_simp) hb
  have x1 := World.block_lt_of_cell? _ _ s1
  have y1 := World.block_lt_of_cell? _ _ h1
  clear hb D1
  go_wp2_with fail
  refine Calls.mono (D2.out _ (HS.out.below HB1.out) (HQ.out.below HB1.out)) ?_
  rintro e w2 ⟨aL, cL, rfl, hb, hi⟩
  have HB2 : Hid (Below w.heap.size w w2) := HB1.out.trans (hb.mono HB1.out.size)
  have s2 := keepC s1 hb
  have h2 := keepC h1 hb
  have k2 := keepC k1 hb
  have x2 := World.block_lt_of_cell? _ _ s2
  have y2 := World.block_lt_of_cell? _ _ h2
  have HL2 : Hid (IntsAt w2 aL L) := hi
  clear hb hi D2 s1 h1 k1 x1 y1
  go_wp2_with fail
  refine Calls.mono (D3.out _ (HS.out.below HB2.out) (HQ.out.below HB2.out)) ?_
  rintro e w3 ⟨rfl, hb⟩
  have HB3 : Hid (Below w.heap.size w w3) := HB2.out.trans (hb.mono HB2.out.size)
  have s3 := keepC s2 hb
  have h3 := keepC h2 hb
  have k3 := keepC k2 hb
  have x3 := World.block_lt_of_cell? _ _ s3
  have y3 := World.block_lt_of_cell? _ _ h3
  have HL3 : Hid (IntsAt w3 aL L) := HL2.out.below hb
  clear hb D3 s2 h2 k2 x2 y2 HL2
  go_wp2_with fail
  refine Calls.mono (D4.out _ (HS.out.below HB3.out) (HQ.out.below HB3.out)) ?_
  rintro e w4 ⟨aM, cM, rfl, hb, hi⟩
  have HB4 : Hid (Below w.heap.size w w4) := HB3.out.trans (hb.mono HB3.out.size)
  have HL4 : Hid (IntsAt w4 aL L) := HL3.out.below hb
  have HM4 : Hid (IntsAt w4 aM L) := hi
  clear hb hi D4 s3 h3 k3 x3 y3 HL3
  go_wp2_with fail
  refine Calls.mono (D5.out _) ?_
  rintro e w5 ⟨rfl, hb⟩
  have HB5 : Hid (Below w.heap.size w w5) := HB4.out.trans (hb.mono HB4.out.size)
  have HL5 : Hid (IntsAt w5 aL L) := HL4.out.below hb
  have HM5 : Hid (IntsAt w5 aM L) := HM4.out.below hb
  clear hb HL4 HM4
  go_wp2_with fail
  refine Calls.mono (D6.out _ (HQ.out.below HB5.out)) ?_
  rintro e w6 ⟨rfl, hb⟩
  have HB6 : Hid (Below w.heap.size w w6) := HB5.out.trans (hb.mono HB5.out.size)
  have HL6 : Hid (IntsAt w6 aL L) := HL5.out.below hb
  have HM6 : Hid (IntsAt w6 aM L) := HM5.out.below hb
  clear hb HL5 HM5
  go_wp2_with fail
  refine Calls.mono (D7.out _ (HQ.out.below HB6.out)) ?_
  rintro e w7 ⟨rfl, hb⟩
  have HB7 : Hid (Below w.heap.size w w7) := HB6.out.trans (hb.mono HB6.out.size)
  have HL7 : Hid (IntsAt w7 aL L) := HL6.out.below hb
  have HM7 : Hid (IntsAt w7 aM L) := HM6.out.below hb
  clear hb HL6 HM6
  go_wp2_with fail
  refine Calls.mono (D8.out aL cL aM cM _ HL7.out HM7.out) ?_
  rintro e w8 ⟨rfl, hb⟩
  have HB8 : Hid (Below w.heap.size w w8) := HB7.out.trans (hb.mono HB7.out.size)
  clear hb
  go_wp2_with fail
  go_ret
  exact ⟨rfl, HB8.out⟩
end Go.Proofs.Ytjlapfgghljidab
