/-
  The reference's SeenFrom and TargetFor.
-/
import Derived.Test.YtkcclfilpchgkaaJRbRhRp
import Derived.Test.YtkcclfilpchgkaaJTk
import Derived.Test.YtkcclfilpchgkaaJTe
import Derived.Test.YtkcclfilpchgkaaJXa
namespace Go.Proofs.Ytkcclfilpchgkaa
open Go.RowKit

theorem seen4_low {w w1 : World} {a : Option Addr} {n c : Nat} {p u q v : Int} {o4 : Obj} (hb : Below (w.heap.size + 1 + 1 + 1 + 1) ((((w.alloc (.cells #[.slice a n c] 24)).alloc (.cells #[.int .i64 p, .int .i64 u] 27)).alloc (.cells #[.int .i64 q, .int .i64 v] 27)).alloc o4) w1) :
    w1.cell? ⟨w.heap.size, 0, none⟩ = some (.slice a n c) ∧ w1.cell? ⟨w.heap.size + 1, 0, none⟩ = some (.int .i64 p) ∧ w1.cell? ⟨w.heap.size + 1, 1, none⟩ = some (.int .i64 u) ∧ w1.cell? ⟨w.heap.size + 1 + 1, 0, none⟩ = some (.int .i64 q) ∧ w1.cell? ⟨w.heap.size + 1 + 1, 1, none⟩ = some (.int .i64 v) ∧ w.heap.size + 4 ≤ w1.heap.size ∧ Below w.heap.size w w1 := by
  have hs := hb.size
  simp only [World.size_alloc] at hs
  exact ⟨(hb.cell (by simp; omega)).trans (by go_simp), (hb.cell (by simp; try omega)).trans (by go_simp), (hb.cell (by simp; try omega)).trans (by go_simp), (hb.cell (by simp; try omega)).trans (by go_simp), (hb.cell (by simp; try omega)).trans (by go_simp), by omega, ((three_below _ _ _ _).alloc (by simp; omega) _).trans (hb.mono (by omega))⟩

set_option maxRecDepth 100000 in
set_option maxHeartbeats 4000000 in
theorem rTarget_any (a : Option Addr) (c : Nat) (S : List Nd) (k told : Nat) (w : World) (hN : S.length ≤ 24) (hS : NdsAt w a S) (hk : k < S.length) (ht : told < S.length) :
    Calls Try.prog 33 #[.agg #[.slice a S.length c], .int .i64 (k : Int), .int .i64 (told : Int)] w fun e w' => e = .returned (.int .i64 (targetF S k told)) ∧ Below w.heap.size w w' := by
  have DP : Hid (∀ W, NdsAt W a S → Calls _ _ _ _ _) := fun W hW => rRoots_any a c S told W hN ht hW
  have DQ : Hid (∀ W, NdsAt W a S → Calls _ _ _ _ _) := fun W hW => rRoots_any a c S k W hN hk hW
  have HS : Hid (NdsAt w a S) := hS
  have T0 : Hid (targetF S k told = tgtF S told (rootsL S k) k) := (target_L : targetF S k told = _)
  have TN : Hid (∀ l (x : Nat), tgtF S told (l ++ [(x : Int)]) k = if (x : Int) ∈ rootsL S told then tgtF S told l k else (nd S x).h) := fun l x => by
    unfold tgtF
    rw [List.foldl_append]
    simp
  have RP : Hid (∀ y ∈ rootsL S k, ∃ x : Nat, y = x ∧ x < S.length) := fun y hy => rootsL_place hk hy
  have TZ : Hid (tgtF S told [] k = k) := (rfl : tgtF S told [] k = k)
  have LP : (rootsL S told).length ≤ 25 := Nat.le_trans (rootsL_len S told) (by omega)
  have LQ : (rootsL S k).length ≤ 25 := Nat.le_trans (rootsL_len S k) (by omega)
  clear hS
  generalize targetF S k told = RES at *
  generalize rootsL S told = P at *
  generalize rootsL S k = Q at *
  obtain ⟨T, hT⟩ : ∃ T : List Int → Int, (fun l => tgtF S told l (k : Int)) = T := ⟨_, rfl⟩
  have hTl : ∀ l, tgtF S told l (k : Int) = T l := fun l => by rw [← hT]
  rw [hTl] at T0 TZ
  have TN2 : Hid (∀ l (x : Nat), T (l ++ [(x : Int)]) = if (x : Int) ∈ P then T l else (nd S x).h) := fun l x => by rw [← hTl, ← hTl]; exact TN.out l x
  clear TN hTl hT
  obtain ⟨mp, hmp⟩ : ∃ m, P.length = m := ⟨_, rfl⟩
  have HMP : Hid (P.length = mp) := hmp
  obtain ⟨m, hm⟩ : ∃ m, Q.length = m := ⟨_, rfl⟩
  have HM : Hid (Q.length = m) := hm
  obtain ⟨n, hn⟩ : ∃ n, S.length = n := ⟨_, rfl⟩
  have HN : Hid (S.length = n) := hn
  rw [hn] at hN hk ht DP DQ RP ⊢
  rw [hm] at LQ
  rw [hmp] at LP
  clear hn hm hmp
  go_enter Try.func33, Try.ntmps33
  go_wp2_with fail
  refine Calls.mono (DP.out _ (HS.out.below ((Below.refl _ _).alloc (Nat.le_refl _) _))) ?_
  rintro e w2 ⟨v1, rfl, hb2, hown2⟩
  obtain ⟨pa, pc, hv1, hi2, _⟩ := own_slice hown2
  rw [HMP.out] at hv1
  simp only [World.size_alloc] at hb2
  have hs2 := hb2.size
  simp only [World.size_alloc] at hs2
  have k0 : w2.cell? ⟨w.heap.size, 0, none⟩ = some (.slice a n c) := (hb2.cell (by simp)).trans (by go_simp)
  have y0 := World.block_lt_of_cell? _ _ k0
  have HB2 : Hid (Below w.heap.size w w2) := ((Below.refl _ _).alloc (Nat.le_refl _) _).trans (hb2.mono (by omega))
  have HI2 : Hid (IntsAt w2 pa P) := hi2
  clear hb2 hown2 hi2
  subst hv1
  go_wp2_with fail
  refine Calls.mono (DQ.out _ (HS.out.below HB2.out)) ?_
  rintro e w3 ⟨v2, rfl, hb3, hown3⟩
  obtain ⟨qa, qc, hv2, hi3, _⟩ := own_slice hown3
  rw [HM.out] at hv2
  have l0 := (hb3.cell (p := ⟨w.heap.size, 0, none⟩) y0).trans k0
  have z0 := World.block_lt_of_cell? _ _ l0
  have HB3 : Hid (Below w.heap.size w w3) := HB2.out.trans (hb3.mono HB2.out.size)
  have HQ3 : Hid (IntsAt w3 qa Q) := hi3
  have DCo : Hid (∀ x : Int, Calls Try.prog 16 #[.slice pa mp pc, .int .i64 x] w3 fun e w' => e = .returned (.bool (decide (x ∈ P))) ∧ w' = w3) := fun x => by
    have h := contains_any pa pc P x w3 (by rw [HMP.out]; omega) (HI2.out.below hb3)
    rw [HMP.out] at h
    exact h
  clear hb3 hown3 hi3 k0 y0 HB2 HI2 DP DQ
  subst hv2
  go_wp2_with fail
  go_loopg [1, 17] m (fun g s1 s17 wr => ∃ (i : Nat) (t : Int), i ≤ m ∧ m - i ≤ g ∧ s17 = .int .i64 i ∧ s1 = .int .i64 t ∧ wr = w3 ∧ Hid (T (Q.take i) = t))
  case atStart => exact ⟨0, k, by omega, by omega, rfl, rfl, rfl, (by rw [List.take_zero]; exact TZ.out : T (Q.take 0) = k)⟩
  case round =>
    obtain ⟨i, t, hi, hg, rfl, rfl, hw, A⟩ := hrel
    have hw2 := hw.symm
    clear hw TZ
    subst hw2
    by_cases hlt : i < m
    · obtain ⟨y, hy, hyn⟩ := RP.out (Q.getD i 0) (by rw [getD_elem Q 0 (by rw [HM.out]; exact hlt)]; exact List.getElem_mem _)
      obtain ⟨pb, po, ep, hpc⟩ := HQ3.out i (by rw [HM.out]; exact hlt)
      subst ep
      rw [hy] at hpc
      obtain ⟨nb, no, ea, _, _, _, _, _, _, c6, _⟩ := (HS.out.below HB3.out) y (by rw [HN.out]; exact hyn)
      subst ea
      have hy2 : (y : Int) < (n : Int) := by omega
      have hi2 : (i : Int) < (m : Int) := by omega
      have DC : Hid _ := DCo.out (y : Int)
      have NX : Hid (T (Q.take (i + 1)) = if (y : Int) ∈ P then t else (nd S y).h) := by
        show T (Q.take (i + 1)) = _
        rw [take_getD (by rw [HM.out]; exact hlt), hy, TN2.out, A.out]
      clear hy A
      generalize (nd S y).h = hh at *
      by_cases hc : (y : Int) ∈ P
      · have e1 : decide ((y : Int) ∈ P) = true := decide_eq_true hc
        have A2 : Hid (T (Q.take (i + 1)) = t) := (by rw [NX.out, if_pos hc] : T (Q.take (i + 1)) = t)
        rw [e1] at DC
        clear NX e1 hc
        go_wp2_with fail
        refine Calls.mono DC.out ?_
        rintro e w4 ⟨rfl, hw4⟩
        subst hw4
        go_wp2_with fail
        go_roundg (m - (i + 1))
        case measure => omega
        case rel => exact ⟨i + 1, t, by omega, by omega, by go_num, rfl, rfl, A2⟩
      · have e1 : decide ((y : Int) ∈ P) = false := decide_eq_false hc
        have A2 : Hid (T (Q.take (i + 1)) = hh) := (by rw [NX.out, if_neg hc] : T (Q.take (i + 1)) = hh)
        rw [e1] at DC
        clear NX e1 hc
        go_wp2_with fail
        refine Calls.mono DC.out ?_
        rintro e w4 ⟨rfl, hw4⟩
        subst hw4
        go_wp2_with fail
        go_roundg (m - (i + 1))
        case measure => omega
        case rel => exact ⟨i + 1, hh, by omega, by omega, by go_num, rfl, rfl, A2⟩
    · have hie : i = m := by omega
      subst hie
      have hR : RES = t := by
        rw [T0.out, ← A.out, List.take_of_length_le (by rw [HM.out]; omega)]
      subst hR
      clear A
      go_wp2
      go_ret
      exact ⟨rfl, HB3.out⟩
end Go.Proofs.Ytkcclfilpchgkaa

namespace Go.Proofs.Ytkcclfilpchgkaa
open Go.RowKit

/-- Behind OwnStore, in a function with three boxes: the row, and what is known of the boxes. -/
theorem own_after {w w1 w2 : World} {a : Option Addr} {c n : Nat} {S : List Nd} {K : Nat → Value} {v : Value} (h0 : 0 < n) (hb1 : Below (w.heap.size + 1 + 1 + 1) (((w.alloc (.cells #[.slice a n c] 24)).alloc (.cells #[.slice none 0 0] 24)).alloc (.cells #[.int .i64 0, .int .i64 0] 27)) w1) (hb2 : Below w1.heap.size w1 w2) (hown : OwnK w1.heap.size S n K v w2) :
    ∃ g cap, v = .slice (some ⟨g, 0, none⟩) n cap ∧ w.heap.size + 3 ≤ g ∧ g < w2.heap.size ∧ n ≤ cap ∧ cap ≤ 9223372036854775807 ∧ OwnK (w.heap.size + 3) S n K (.slice (some ⟨g, 0, none⟩) n cap) (w2.setCell ⟨w.heap.size, 0, none⟩ (.slice (some ⟨g, 0, none⟩) n cap)) ∧
    Below w.heap.size w (w2.setCell ⟨w.heap.size, 0, none⟩ (.slice (some ⟨g, 0, none⟩) n cap)) ∧ (w2.cell? ⟨w.heap.size, 0, none⟩ = some (.slice a n c) ∧ w2.frozen? ⟨w.heap.size, 0, none⟩ = false) ∧
    w2.cell? ⟨w.heap.size + 1, 0, none⟩ = some (.slice none 0 0) ∧ w2.cell? ⟨w.heap.size + 1 + 1, 0, none⟩ = some (.int .i64 0) ∧ w2.cell? ⟨w.heap.size + 1 + 1, 1, none⟩ = some (.int .i64 0) ∧
    w2.frozen? ⟨w.heap.size + 1, 0, none⟩ = false ∧ w2.frozen? ⟨w.heap.size + 1 + 1, 0, none⟩ = false ∧ w2.frozen? ⟨w.heap.size + 1 + 1, 1, none⟩ = false := by
  have hs1 := hb1.size
  simp only [World.size_alloc] at hs1
  have hb3 : Below (w.heap.size + 1 + 1 + 1) _ w2 := hb1.trans (hb2.mono (by omega))
  obtain ⟨l0, l1, l2, l3, z1, z2, z3⟩ := make_low hb3
  have z0 : w2.frozen? ⟨w.heap.size, 0, none⟩ = false := (hb3.frozen (by simp; omega)).trans (by go_simp)
  have hm := hown.1
  obtain ⟨g, cap, rfl, h1, h2, h3, h4⟩ : ∃ g cap, v = .slice (some ⟨g, 0, none⟩) n cap ∧ w1.heap.size ≤ g ∧ g < w2.heap.size ∧ n ≤ cap ∧ cap ≤ 9223372036854775807 := by
    have hl := hm.lt
    rcases hm.2 with ⟨_, h⟩ | ⟨g, cap, cur, h, h1, _, h3, h4, _⟩
    · omega
    · subst h
      exact ⟨g, cap, rfl, h1, (hl g rfl).2, h3, by unfold maxLen at h4; omega⟩
  refine ⟨g, cap, rfl, by omega, h2, h3, h4, ?_, ?_, ⟨l0, z0⟩, l1, l2, l3, z1, z2, z3⟩
  · have ho : OwnK (w.heap.size + 3) S n K (.slice (some ⟨g, 0, none⟩) n cap) w2 := ⟨ownsRow_baseL hown.1 (by omega), fun i hi => ownsRow_baseL (hown.2 i hi) (by omega)⟩
    exact ho.other (fun b hb _ => Below.heap_setCell _ _ _ _ (by simp; omega))
  · exact ((three_below _ _ _ _).trans (hb3.mono (by omega))).setCell (by simp) _

theorem cell_else {W : World} {g o1 b o : Nat} {u v : Value} (hb : b ≠ g) (h : W.cell? ⟨b, o, none⟩ = some v) : (W.setCell ⟨g, o1, none⟩ u).cell? ⟨b, o, none⟩ = some v :=
  (World.cell?_of_block (Below.heap_setCell _ _ _ _ hb)).trans h
theorem frozen_else {W : World} {a b : Addr} {u : Value} (h : W.frozen? b = false) : (W.setCell a u).frozen? b = false := by
  rw [World.frozen?_setCell]; exact h

end Go.Proofs.Ytkcclfilpchgkaa

namespace Go.Proofs.Ytkcclfilpchgkaa
open Go.RowKit

/-- The same, of a store that may have no places. -/
theorem own_after0 {w w1 w2 : World} {a : Option Addr} {c n : Nat} {S : List Nd} {K : Nat → Value} {v : Value} (hb1 : Below (w.heap.size + 1 + 1 + 1) (((w.alloc (.cells #[.slice a n c] 24)).alloc (.cells #[.slice none 0 0] 24)).alloc (.cells #[.int .i64 0, .int .i64 0] 27)) w1) (hb2 : Below w1.heap.size w1 w2) (hown : OwnK w1.heap.size S n K v w2) :
    ∃ va vc, v = .slice va n vc ∧ OwnK (w.heap.size + 3) S n K (.slice va n vc) (w2.setCell ⟨w.heap.size, 0, none⟩ (.slice va n vc)) ∧
    Below w.heap.size w (w2.setCell ⟨w.heap.size, 0, none⟩ (.slice va n vc)) ∧ (w2.cell? ⟨w.heap.size, 0, none⟩ = some (.slice a n c) ∧ w2.frozen? ⟨w.heap.size, 0, none⟩ = false) ∧
    w2.cell? ⟨w.heap.size + 1, 0, none⟩ = some (.slice none 0 0) ∧ w2.cell? ⟨w.heap.size + 1 + 1, 0, none⟩ = some (.int .i64 0) ∧ w2.cell? ⟨w.heap.size + 1 + 1, 1, none⟩ = some (.int .i64 0) ∧
    w2.frozen? ⟨w.heap.size + 1, 0, none⟩ = false ∧ w2.frozen? ⟨w.heap.size + 1 + 1, 0, none⟩ = false ∧ w2.frozen? ⟨w.heap.size + 1 + 1, 1, none⟩ = false := by
  have hs1 := hb1.size
  simp only [World.size_alloc] at hs1
  have hb3 : Below (w.heap.size + 1 + 1 + 1) _ w2 := hb1.trans (hb2.mono (by omega))
  obtain ⟨l0, l1, l2, l3, z1, z2, z3⟩ := make_low hb3
  have z0 : w2.frozen? ⟨w.heap.size, 0, none⟩ = false := (hb3.frozen (by simp; omega)).trans (by go_simp)
  have hm := hown.1
  obtain ⟨va, vc, rfl⟩ : ∃ va vc, v = .slice va n vc := by
    rcases hm.2 with ⟨h, h0⟩ | ⟨g, cap, cur, h, h1, _, h3, h4, _⟩
    · exact ⟨none, 0, by rw [h, h0]⟩
    · exact ⟨_, cap, h⟩
  refine ⟨va, vc, rfl, ?_, ?_, ⟨l0, z0⟩, l1, l2, l3, z1, z2, z3⟩
  · have ho : OwnK (w.heap.size + 3) S n K (.slice va n vc) w2 := ⟨ownsRow_baseL hown.1 (by omega), fun i hi => ownsRow_baseL (hown.2 i hi) (by omega)⟩
    exact ho.other (fun b hb _ => Below.heap_setCell _ _ _ _ (by simp; omega))
  · exact ((three_below _ _ _ _).trans (hb3.mono (by omega))).setCell (by simp) _


end Go.Proofs.Ytkcclfilpchgkaa
