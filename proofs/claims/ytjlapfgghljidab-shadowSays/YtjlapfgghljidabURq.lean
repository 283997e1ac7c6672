/-
  The reference's SeenFrom and TargetFor.
-/
import Derived.Test.YtjlapfgghljidabURpRj
import Derived.Test.YtjlapfgghljidabUTk
namespace Go.Proofs.Ytjlapfgghljidab
open Go.RowKit

theorem seen4_low {w w1 : World} {a : Option Addr} {n c : Nat} {p u q v : Int} {o4 : Obj} (hb : Below (w.heap.size + 1 + 1 + 1 + 1) ((((w.alloc (.cells #[.slice a n c] 24)).alloc (.cells #[.int .i64 p, .int .i64 u] 26)).alloc (.cells #[.int .i64 q, .int .i64 v] 26)).alloc o4) w1) :
    w1.cell? ⟨w.heap.size, 0, none⟩ = some (.slice a n c) ∧ w1.cell? ⟨w.heap.size + 1, 0, none⟩ = some (.int .i64 p) ∧ w1.cell? ⟨w.heap.size + 1, 1, none⟩ = some (.int .i64 u) ∧ w1.cell? ⟨w.heap.size + 1 + 1, 0, none⟩ = some (.int .i64 q) ∧ w1.cell? ⟨w.heap.size + 1 + 1, 1, none⟩ = some (.int .i64 v) ∧ w.heap.size + 4 ≤ w1.heap.size ∧ Below w.heap.size w w1 := by
  have hs := hb.size
  simp only [World.size_alloc] at hs
  exact ⟨(hb.cell (by simp; omega)).trans (by go_simp), (hb.cell (by simp; try omega)).trans (by go_simp), (hb.cell (by simp; try omega)).trans (by go_simp), (hb.cell (by simp; try omega)).trans (by go_simp), (hb.cell (by simp; try omega)).trans (by go_simp), by omega, ((three_below _ _ _ _).alloc (by simp; omega) _).trans (hb.mono (by omega))⟩

set_option maxRecDepth 100000 in
set_option maxHeartbeats 2000000 in
theorem rSeen_err (a : Option Addr) (c : Nat) (S : List Nd) (p u q v E : Int) (w : World) (hN : S.length ≤ 9223372036854775807) (hC : RChk a c S) (hS : NdsAt w a S) (hE : tcheckE S [(p, u), (q, v)] = E) (hE0 : E ≠ 0) :
    Calls Try.prog 29 #[.agg #[.slice a S.length c], .agg #[.int .i64 p, .int .i64 u], .agg #[.int .i64 q, .int .i64 v]] w fun e w' => e = .returned (.tuple #[.bool false, .int .i64 E]) ∧ Below w.heap.size w w' := by
  have df := fun (W : World) (ha : Option Addr) (hW : NdsAt W a S) (hH : HandsAt W ha [(p, u), (q, v)]) => rFirst_any a c S ha 2 [(p, u), (q, v)] W hN hC hW (by simp) hH
  rw [hE] at df
  have DF : Hid _ := df
  have HS : Hid (NdsAt w a S) := hS
  have hz : (E == 0) = false := by simp [hE0]
  have hz2 : decide (E = 0) = false := decide_eq_false hE0
  clear hS hC df hE
  generalize S.length = n at *
  go_enter Try.func29, Try.ntmps29
  go_wp2_with (go_at_call 46; refine (DF.out _ _ (HS.out.below ((three_below _ _ _ _).alloc (by simp; omega) _)) (hands_two _ _ _ _ _ _ (by go_simp) (by go_simp) (by go_simp) (by go_simp))).mono ?_; rintro e w1 ⟨rfl, hb1⟩; simp only [World.size_alloc] at hb1; obtain ⟨l0, l1, l2, l3, l4, hsz, hB1⟩ := seen4_low hb1)
  first
    | (go_ret; exact ⟨rfl, hB1⟩)
    | (go_ret2; exact ⟨rfl, hB1⟩)
    | (refine bodyPost_ret (v := .tuple #[.bool false, .int .i64 E]) (by simp [results, Try.results29, go_sem]) rfl ⟨rfl, hB1⟩)

set_option maxRecDepth 100000 in
set_option maxHeartbeats 4000000 in
theorem rSeen_ok (a : Option Addr) (c : Nat) (S : List Nd) (p q : Nat) (u v : Int) (w : World) (hN : S.length ≤ 24) (hC : RChk a c S) (hS : NdsAt w a S) (hp : p < S.length) (hq : q < S.length) (hE : tcheckE S [((p : Int), u), ((q : Int), v)] = 0) :
    Calls Try.prog 29 #[.agg #[.slice a S.length c], .agg #[.int .i64 (p : Int), .int .i64 u], .agg #[.int .i64 (q : Int), .int .i64 v]] w fun e w' => e = .returned (.tuple #[.bool (seenF S p q), .int .i64 0]) ∧ Below w.heap.size w w' := by
  have df := fun (W : World) (ha : Option Addr) (hW : NdsAt W a S) (hH : HandsAt W ha [((p : Int), u), ((q : Int), v)]) => rFirst_any a c S ha 2 [((p : Int), u), ((q : Int), v)] W (by omega) hC hW (by simp) hH
  rw [hE] at df
  have DF : Hid _ := df
  have DP : Hid (∀ W, NdsAt W a S → Calls _ _ _ _ _) := fun W hW => rRoots_any a c S p W hN hp hW
  have DQ : Hid (∀ W, NdsAt W a S → Calls _ _ _ _ _) := fun W hW => rRoots_any a c S q W hN hq hW
  have HS : Hid (NdsAt w a S) := hS
  have SL : Hid (seenF S p q = !((rootsL S q).any (hidB S p))) := (seen_L : seenF S p q = _)
  have HD : Hid (∀ x : Nat, hidB S p (x : Int) = ((nd S x).c && !decide ((x : Int) ∈ rootsL S p))) := fun x => by unfold hidB; rw [Int.toNat_natCast]
  have RP : Hid (∀ y ∈ rootsL S q, ∃ x : Nat, y = x ∧ x < S.length) := fun y hy => rootsL_place hq hy
  have LP : (rootsL S p).length ≤ 25 := Nat.le_trans (rootsL_len S p) (by omega)
  have LQ : (rootsL S q).length ≤ 25 := Nat.le_trans (rootsL_len S q) (by omega)
  clear hS hC df hE
  generalize seenF S p q = RES at *
  generalize rootsL S p = P at *
  generalize rootsL S q = Q at *
  obtain ⟨mp, hmp⟩ : ∃ m, P.length = m := ⟨_, rfl⟩
  have HMP : Hid (P.length = mp) := hmp
  obtain ⟨m, hm⟩ : ∃ m, Q.length = m := ⟨_, rfl⟩
  have HM : Hid (Q.length = m) := hm
  obtain ⟨n, hn⟩ : ∃ n, S.length = n := ⟨_, rfl⟩
  have HN : Hid (S.length = n) := hn
  rw [hn] at hN hp hq DF DP DQ RP ⊢
  rw [hm] at LQ
  rw [hmp] at LP
  clear hn hm hmp
  go_enter Try.func29, Try.ntmps29
  go_wp2_with (go_at_call 46; refine (DF.out _ _ (HS.out.below ((three_below _ _ _ _).alloc (by simp; omega) _)) (hands_two _ _ _ _ _ _ (by go_simp) (by go_simp) (by go_simp) (by go_simp))).mono ?_; rintro e w1 ⟨rfl, hb1⟩; simp only [World.size_alloc] at hb1; obtain ⟨l0, l1, l2, l3, l4, hsz, hB1⟩ := seen4_low hb1; have HB1 : Hid _ := hB1; have z0 : w.heap.size < w1.heap.size := (by omega); have z1 : w.heap.size + 1 < w1.heap.size := (by omega); have z2 : w.heap.size + 1 + 1 < w1.heap.size := (by omega); clear hb1 hB1)
  refine Calls.mono (DP.out _ (HS.out.below HB1.out)) ?_
  rintro e w2 ⟨v1, rfl, hb2, hown2⟩
  obtain ⟨pa, pc, hv1, hi2, _⟩ := own_slice hown2
  rw [HMP.out] at hv1
  have k0 := (hb2.cell (p := ⟨w.heap.size, 0, none⟩) z0).trans l0
  have k3 := (hb2.cell (p := ⟨w.heap.size + 1 + 1, 0, none⟩) z2).trans l3
  have y0 := World.block_lt_of_cell? _ _ k0
  have y2 := World.block_lt_of_cell? _ _ k3
  have HB2 : Hid (Below w.heap.size w w2) := HB1.out.trans (hb2.mono HB1.out.size)
  have HI2 : Hid (IntsAt w2 pa P) := hi2
  clear hb2 hown2 hi2 l0 l1 l2 l3 l4 z0 z1 z2 HB1 hsz
  subst hv1
  go_wp2_with fail
  refine Calls.mono (DQ.out _ (HS.out.below HB2.out)) ?_
  rintro e w3 ⟨v2, rfl, hb3, hown3⟩
  obtain ⟨qa, qc, hv2, hi3, _⟩ := own_slice hown3
  rw [HM.out] at hv2
  have l0 := (hb3.cell (p := ⟨w.heap.size, 0, none⟩) y0).trans k0
  have z0 := World.block_lt_of_cell? _ _ l0
  have HB3 : Hid (Below w.heap.size w w3) := HB2.out.trans (hb3.mono HB2.out.size)
  have HQ3 : Hid (IntsAt w3 qa Q) := hi3
  have DCo : Hid (∀ x : Int, Calls Try.prog 11 #[.slice pa mp pc, .int .i64 x] w3 fun e w' => e = .returned (.bool (decide (x ∈ P))) ∧ w' = w3) := fun x => by
    have h := contains_any pa pc P x w3 (by rw [HMP.out]; omega) (HI2.out.below hb3)
    rw [HMP.out] at h
    exact h
  clear hb3 hown3 hi3 k0 k3 y0 y2 HB2 HI2 DP DQ DF
  subst hv2
  go_wp2_with fail
  go_loopg [29] m (fun g s29 wr => ∃ i : Nat, i ≤ m ∧ m - i ≤ g ∧ s29 = .int .i64 i ∧ wr = w3 ∧ Hid (∀ j, j < i → hidB S p (Q.getD j 0) = false))
  case atStart => exact ⟨0, by omega, by omega, rfl, rfl, fun j hj => by omega⟩
  case round =>
    obtain ⟨i, hi, hg, rfl, hw, A⟩ := hrel
    have hw2 := hw.symm
    clear hw
    subst hw2
    by_cases hlt : i < m
    · obtain ⟨y, hy, hyn⟩ := RP.out (Q.getD i 0) (by rw [getD_elem Q 0 (by rw [HM.out]; exact hlt)]; exact List.getElem_mem _)
      obtain ⟨pb, po, ep, hpc⟩ := HQ3.out i (by rw [HM.out]; exact hlt)
      subst ep
      rw [hy] at hpc
      obtain ⟨nb, no, ea, _, _, _, _, _, _, _, c7⟩ := (HS.out.below HB3.out) y (by rw [HN.out]; exact hyn)
      subst ea
      have hy2 : (y : Int) < (n : Int) := by omega
      have hi2 : (i : Int) < (m : Int) := by omega
      have DC : Hid _ := DCo.out (y : Int)
      have HDy : Hid (hidB S p (Q.getD i 0) = ((nd S y).c && !decide ((y : Int) ∈ P))) := (by rw [hy]; exact HD.out y : hidB S p (Q.getD i 0) = _)
      have NX : Hid (hidB S p (Q.getD i 0) = false → ∀ j, j < i + 1 → hidB S p (Q.getD j 0) = false) := fun h j hj => by
        by_cases e : j = i
        · rw [e]; exact h
        · exact A.out j (by omega)
      have YES : Hid (hidB S p (Q.getD i 0) = true → RES = false) := fun h => by
        have h2 : Q.any (hidB S p) = true := List.any_eq_true.2 ⟨Q.getD i 0, by rw [getD_elem Q 0 (by rw [HM.out]; exact hlt)]; exact List.getElem_mem _, h⟩
        rw [SL.out, h2]
        rfl
      clear hy A
      generalize (nd S y).c = cc at *
      cases cc with
      | false =>
        have A2 : Hid _ := NX.out (by rw [HDy.out]; rfl)
        clear NX HDy YES
        go_wp2_with fail
        go_roundg (m - (i + 1))
        case measure => omega
        case rel => exact ⟨i + 1, by omega, by omega, by go_num, rfl, A2⟩
      | true =>
        by_cases hc : (y : Int) ∈ P
        · have e1 : decide ((y : Int) ∈ P) = true := decide_eq_true hc
          have A2 : Hid _ := NX.out (by rw [HDy.out, e1]; rfl)
          rw [e1] at DC
          clear NX HDy YES e1 hc
          go_wp2_with fail
          refine Calls.mono DC.out ?_
          rintro e w4 ⟨rfl, hw4⟩
          subst hw4
          go_wp2_with fail
          go_roundg (m - (i + 1))
          case measure => omega
          case rel => exact ⟨i + 1, by omega, by omega, by go_num, rfl, A2⟩
        · have e1 : decide ((y : Int) ∈ P) = false := decide_eq_false hc
          have hR : RES = false := YES.out (by rw [HDy.out, e1]; rfl)
          rw [e1] at DC
          subst hR
          clear NX HDy YES e1 hc
          go_wp2_with fail
          refine Calls.mono DC.out ?_
          rintro e w4 ⟨rfl, hw4⟩
          subst hw4
          go_wp2_with fail
          first
            | (go_ret; exact ⟨rfl, HB3.out⟩)
            | (go_ret2; exact ⟨rfl, HB3.out⟩)
            | (refine bodyPost_ret (v := .tuple #[.bool false, .int .i64 0]) (by simp [results, Try.results29, go_sem]) rfl ⟨rfl, HB3.out⟩)
    · have hie : i = m := by omega
      subst hie
      have hR : RES = true := by
        have h2 : Q.any (hidB S p) = false := List.any_eq_false.2 (fun x hx => by
          obtain ⟨j, hj, e⟩ := List.getElem_of_mem hx
          have := A.out j (by rw [← HM.out]; exact hj)
          rw [getD_elem Q 0 hj, e] at this
          simp [this])
        rw [SL.out, h2]
        rfl
      subst hR
      clear A
      go_wp2
      first
        | (go_ret; exact ⟨rfl, HB3.out⟩)
        | (go_ret2; exact ⟨rfl, HB3.out⟩)
        | (refine bodyPost_ret (v := .tuple #[.bool true, .int .i64 0]) (by simp [results, Try.results29, go_sem]) rfl ⟨rfl, HB3.out⟩)

set_option maxRecDepth 100000 in
set_option maxHeartbeats 4000000 in
theorem rTarget_any (a : Option Addr) (c : Nat) (S : List Nd) (k told : Nat) (w : World) (hN : S.length ≤ 24) (hS : NdsAt w a S) (hk : k < S.length) (ht : told < S.length) :
    Calls Try.prog 35 #[.agg #[.slice a S.length c], .int .i64 (k : Int), .int .i64 (told : Int)] w fun e w' => e = .returned (.int .i64 (targetF S k told)) ∧ Below w.heap.size w w' := by
  have DP : Hid (∀ W, NdsAt W a S → Calls _ _ _ _ _) := fun W hW => rRoots_any a c S told W hN ht hW
  have DQ : Hid (∀ W, NdsAt W a S → Calls _ _ _ _ _) := fun W hW => rRoots_any a c S k W hN hk hW
  have HS : Hid (NdsAt w a S) := hS
  have T0 : Hid (targetF S k told = tgtF S told (rootsL S k) k) := (target_L : targetF S k told = _)
  have TN : Hid (∀ l (x : Nat), tgtF S told (l ++ [(x : Int)]) k = if (x : Int) ∈ rootsL S told then tgtF S told l k else (nd S x).h) := fun l x => by
    unfold tgtF
    rw [List.foldl_append]
    simp
  have RP : Hid (∀ y ∈ rootsL S k, ∃ x : Nat, y = x ∧ x < S.length) := fun y hy => rootsL_place hk hy
  have TZ : Hid (tgtF S told [] k = k) := (rfl : tgtF S told [] k = k)
  have LP : (rootsL S told).length ≤ 25 := Nat.le_trans (rootsL_len S told) (by omega)
  have LQ : (rootsL S k).length ≤ 25 := Nat.le_trans (rootsL_len S k) (by omega)
  clear hS
  generalize targetF S k told = RES at *
  generalize rootsL S told = P at *
  generalize rootsL S k = Q at *
  obtain ⟨T, hT⟩ : ∃ T : List Int → Int, (fun l => tgtF S told l (k : Int)) = T := ⟨_, rfl⟩
  have hTl : ∀ l, tgtF S told l (k : Int) = T l := fun l => by rw [← hT]
  rw [hTl] at T0 TZ
  have TN2 : Hid (∀ l (x : Nat), T (l ++ [(x : Int)]) = if (x : Int) ∈ P then T l else (nd S x).h) := fun l x => by rw [← hTl, ← hTl]; exact TN.out l x
  clear TN hTl hT
  obtain ⟨mp, hmp⟩ : ∃ m, P.length = m := ⟨_, rfl⟩
  have HMP : Hid (P.length = mp) := hmp
  obtain ⟨m, hm⟩ : ∃ m, Q.length = m := ⟨_, rfl⟩
  have HM : Hid (Q.length = m) := hm
  obtain ⟨n, hn⟩ : ∃ n, S.length = n := ⟨_, rfl⟩
  have HN : Hid (S.length = n) := hn
  rw [hn] at hN hk ht DP DQ RP ⊢
  rw [hm] at LQ
  rw [hmp] at LP
  clear hn hm hmp
  go_enter Try.func35, Try.ntmps35
  go_wp2_with fail
  refine Calls.mono (DP.out _ (HS.out.below ((Below.refl _ _).alloc (Nat.le_refl _) _))) ?_
  rintro e w2 ⟨v1, rfl, hb2, hown2⟩
  obtain ⟨pa, pc, hv1, hi2, _⟩ := own_slice hown2
  rw [HMP.out] at hv1
  simp only [World.size_alloc] at hb2
  have hs2 := hb2.size
  simp only [World.size_alloc] at hs2
  have k0 : w2.cell? ⟨w.heap.size, 0, none⟩ = some (.slice a n c) := (hb2.cell (by simp)).trans (by go_simp)
  have y0 := World.block_lt_of_cell? _ _ k0
  have HB2 : Hid (Below w.heap.size w w2) := ((Below.refl _ _).alloc (Nat.le_refl _) _).trans (hb2.mono (by omega))
  have HI2 : Hid (IntsAt w2 pa P) := hi2
  clear hb2 hown2 hi2
  subst hv1
  go_wp2_with fail
  refine Calls.mono (DQ.out _ (HS.out.below HB2.out)) ?_
  rintro e w3 ⟨v2, rfl, hb3, hown3⟩
  obtain ⟨qa, qc, hv2, hi3, _⟩ := own_slice hown3
  rw [HM.out] at hv2
  have l0 := (hb3.cell (p := ⟨w.heap.size, 0, none⟩) y0).trans k0
  have z0 := World.block_lt_of_cell? _ _ l0
  have HB3 : Hid (Below w.heap.size w w3) := HB2.out.trans (hb3.mono HB2.out.size)
  have HQ3 : Hid (IntsAt w3 qa Q) := hi3
  have DCo : Hid (∀ x : Int, Calls Try.prog 11 #[.slice pa mp pc, .int .i64 x] w3 fun e w' => e = .returned (.bool (decide (x ∈ P))) ∧ w' = w3) := fun x => by
    have h := contains_any pa pc P x w3 (by rw [HMP.out]; omega) (HI2.out.below hb3)
    rw [HMP.out] at h
    exact h
  clear hb3 hown3 hi3 k0 y0 HB2 HI2 DP DQ
  subst hv2
  go_wp2_with fail
  go_loopg [1, 17] m (fun g s1 s17 wr => ∃ (i : Nat) (t : Int), i ≤ m ∧ m - i ≤ g ∧ s17 = .int .i64 i ∧ s1 = .int .i64 t ∧ wr = w3 ∧ Hid (T (Q.take i) = t))
  case atStart => exact ⟨0, k, by omega, by omega, rfl, rfl, rfl, (by rw [List.take_zero]; exact TZ.out : T (Q.take 0) = k)⟩
  case round =>
    obtain ⟨i, t, hi, hg, rfl, rfl, hw, A⟩ := hrel
    have hw2 := hw.symm
    clear hw TZ
    subst hw2
    by_cases hlt : i < m
    · obtain ⟨y, hy, hyn⟩ := RP.out (Q.getD i 0) (by rw [getD_elem Q 0 (by rw [HM.out]; exact hlt)]; exact List.getElem_mem _)
      obtain ⟨pb, po, ep, hpc⟩ := HQ3.out i (by rw [HM.out]; exact hlt)
      subst ep
      rw [hy] at hpc
      obtain ⟨nb, no, ea, _, _, _, _, _, _, c6, _⟩ := (HS.out.below HB3.out) y (by rw [HN.out]; exact hyn)
      subst ea
      have hy2 : (y : Int) < (n : Int) := by omega
      have hi2 : (i : Int) < (m : Int) := by omega
      have DC : Hid _ := DCo.out (y : Int)
      have NX : Hid (T (Q.take (i + 1)) = if (y : Int) ∈ P then t else (nd S y).h) := by
        show T (Q.take (i + 1)) = _
        rw [take_getD (by rw [HM.out]; exact hlt), hy, TN2.out, A.out]
      clear hy A
      generalize (nd S y).h = hh at *
      by_cases hc : (y : Int) ∈ P
      · have e1 : decide ((y : Int) ∈ P) = true := decide_eq_true hc
        have A2 : Hid (T (Q.take (i + 1)) = t) := (by rw [NX.out, if_pos hc] : T (Q.take (i + 1)) = t)
        rw [e1] at DC
        clear NX e1 hc
        go_wp2_with fail
        refine Calls.mono DC.out ?_
        rintro e w4 ⟨rfl, hw4⟩
        subst hw4
        go_wp2_with fail
        go_roundg (m - (i + 1))
        case measure => omega
        case rel => exact ⟨i + 1, t, by omega, by omega, by go_num, rfl, rfl, A2⟩
      · have e1 : decide ((y : Int) ∈ P) = false := decide_eq_false hc
        have A2 : Hid (T (Q.take (i + 1)) = hh) := (by rw [NX.out, if_neg hc] : T (Q.take (i + 1)) = hh)
        rw [e1] at DC
        clear NX e1 hc
        go_wp2_with fail
        refine Calls.mono DC.out ?_
        rintro e w4 ⟨rfl, hw4⟩
        subst hw4
        go_wp2_with fail
        go_roundg (m - (i + 1))
        case measure => omega
        case rel => exact ⟨i + 1, hh, by omega, by omega, by go_num, rfl, rfl, A2⟩
    · have hie : i = m := by omega
      subst hie
      have hR : RES = t := by
        rw [T0.out, ← A.out, List.take_of_length_le (by rw [HM.out]; omega)]
      subst hR
      clear A
      go_wp2
      go_ret
      exact ⟨rfl, HB3.out⟩
end Go.Proofs.Ytjlapfgghljidab
