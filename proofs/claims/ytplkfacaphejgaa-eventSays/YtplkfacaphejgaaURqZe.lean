/-
  The reference's SeenFrom and TargetFor.
-/
import Derived.Test.YtplkfacaphejgaaURpRjTmZc
import Derived.Test.YtplkfacaphejgaaUTk
import Derived.Test.YtplkfacaphejgaaUZd
namespace Go.Proofs.Ytplkfacaphejgaa
open Go.RowKit

theorem seen4_low {w w1 : World} {a : Option Addr} {n c : Nat} {p u q v : Int} {o4 : Obj} (hb : Below (w.heap.size + 1 + 1 + 1 + 1) ((((w.alloc (.cells #[.slice a n c] 24)).alloc (.cells #[.int .i64 p, .int .i64 u] 27)).alloc (.cells #[.int .i64 q, .int .i64 v] 27)).alloc o4) w1) :
    w1.cell? ⟨w.heap.size, 0, none⟩ = some (.slice a n c) ∧ w1.cell? ⟨w.heap.size + 1, 0, none⟩ = some (.int .i64 p) ∧ w1.cell? ⟨w.heap.size + 1, 1, none⟩ = some (.int .i64 u) ∧ w1.cell? ⟨w.heap.size + 1 + 1, 0, none⟩ = some (.int .i64 q) ∧ w1.cell? ⟨w.heap.size + 1 + 1, 1, none⟩ = some (.int .i64 v) ∧ w.heap.size + 4 ≤ w1.heap.size ∧ Below w.heap.size w w1 := by
  have hs := hb.size
  simp only [World.size_alloc] at hs
  exact ⟨(hb.cell (by simp; omega)).trans (by go_simp), (hb.cell (by simp; try omega)).trans (by go_simp), (hb.cell (by simp; try omega)).trans (by go_simp), (hb.cell (by simp; try omega)).trans (by go_simp), (hb.cell (by simp; try omega)).trans (by go_simp), by omega, ((three_below _ _ _ _).alloc (by simp; omega) _).trans (hb.mono (by omega))⟩

set_option maxRecDepth 100000 in
set_option maxHeartbeats 4000000 in
theorem rTarget_any (a : Option Addr) (c : Nat) (S : List Nd) (k told : Nat) (w : World) (hN : S.length ≤ 24) (hS : NdsAt w a S) (hk : k < S.length) (ht : told < S.length) :
    Calls Try.prog 21 #[.agg #[.slice a S.length c], .int .i64 (k : Int), .int .i64 (told : Int)] w fun e w' => e = .returned (.int .i64 (targetF S k told)) ∧ Below w.heap.size w w' := by
  have DP : Hid (∀ W, NdsAt W a S → Calls _ _ _ _ _) := fun W hW => rRoots_any a c S told W hN ht hW
  have DQ : Hid (∀ W, NdsAt W a S → Calls _ _ _ _ _) := fun W hW => rRoots_any a c S k W hN hk hW
  have HS : Hid (NdsAt w a S) := hS
  have T0 : Hid (targetF S k told = tgtF S told (rootsL S k) k) := (target_L : targetF S k told = _)
  have TN : Hid (∀ l (x : Nat), tgtF S told (l ++ [(x : Int)]) k = if (x : Int) ∈ rootsL S told then tgtF S told l k else (nd S x).h) := fun l x => by
    unfold tgtF
    rw [List.foldl_append]
    simp
  have RP : Hid (∀ y ∈ rootsL S k, ∃ x : Nat, y = x ∧ x < S.length) := fun y hy => rootsL_place hk hy
  have TZ : Hid (tgtF S told [] k = k) := (rfl : tgtF S told [] k = k)
  have LP : (rootsL S told).length ≤ 25 := Nat.le_trans (rootsL_len S told) (by omega)
  have LQ : (rootsL S k).length ≤ 25 := Nat.le_trans (rootsL_len S k) (by omega)
  clear hS
  generalize targetF S k told = RES at *
  generalize rootsL S told = P at *
  generalize rootsL S k = Q at *
  obtain ⟨T, hT⟩ : ∃ T : List Int → Int, (fun l => tgtF S told l (k : Int)) = T := ⟨_, rfl⟩
  have hTl : ∀ l, tgtF S told l (k : Int) = T l := fun l => by rw [← hT]
  rw [hTl] at T0 TZ
  have TN2 : Hid (∀ l (x : Nat), T (l ++ [(x : Int)]) = if (x : Int) ∈ P then T l else (nd S x).h) := fun l x => by rw [← hTl, ← hTl]; exact TN.out l x
  clear TN hTl hT
  obtain ⟨mp, hmp⟩ : ∃ m, P.length = m := ⟨_, rfl⟩
  have HMP : Hid (P.length = mp) := hmp
  obtain ⟨m, hm⟩ : ∃ m, Q.length = m := ⟨_, rfl⟩
  have HM : Hid (Q.length = m) := hm
  obtain ⟨n, hn⟩ : ∃ n, S.length = n := ⟨_, rfl⟩
  have HN : Hid (S.length = n) := hn
  rw [hn] at hN hk ht DP DQ RP ⊢
  rw [hm] at LQ
  rw [hmp] at LP
  clear hn hm hmp
  go_enter Try.func21, Try.ntmps21
  go_wp2_with fail
  refine Calls.mono (DP.out _ (HS.out.below ((Below.refl _ _).alloc (Nat.le_refl _) _))) ?_
  rintro e w2 ⟨v1, rfl, hb2, hown2⟩
  obtain ⟨pa, pc, hv1, hi2, _⟩ := own_slice hown2
  rw [HMP.out] at hv1
  simp only [World.size_alloc] at hb2
  have hs2 := hb2.size
  simp only [World.size_alloc] at hs2
  have k0 : w2.cell? ⟨w.heap.size, 0, none⟩ = some (.slice a n c) := (hb2.cell (by simp)).trans (by go_simp)
  have y0 := World.block_lt_of_cell? _ _ k0
  have HB2 : Hid (Below w.heap.size w w2) := ((Below.refl _ _).alloc (Nat.le_refl _) _).trans (hb2.mono (by omega))
  have HI2 : Hid (IntsAt w2 pa P) := hi2
  clear hb2 hown2 hi2
  subst hv1
  go_wp2_with fail
  refine Calls.mono (DQ.out _ (HS.out.below HB2.out)) ?_
  rintro e w3 ⟨v2, rfl, hb3, hown3⟩
  obtain ⟨qa, qc, hv2, hi3, _⟩ := own_slice hown3
  rw [HM.out] at hv2
  have l0 := (hb3.cell (p := ⟨w.heap.size, 0, none⟩) y0).trans k0
  have z0 := World.block_lt_of_cell? _ _ l0
  have HB3 : Hid (Below w.heap.size w w3) := HB2.out.trans (hb3.mono HB2.out.size)
  have HQ3 : Hid (IntsAt w3 qa Q) := hi3
  have DCo : Hid (∀ x : Int, Calls Try.prog 35 #[.slice pa mp pc, .int .i64 x] w3 fun e w' => e = .returned (.bool (decide (x ∈ P))) ∧ w' = w3) := fun x => by
    have h := contains_any pa pc P x w3 (by rw [HMP.out]; omega) (HI2.out.below hb3)
    rw [HMP.out] at h
    exact h
  clear hb3 hown3 hi3 k0 y0 HB2 HI2 DP DQ
  subst hv2
  go_wp2_with fail
  go_loopg [1, 17] m (fun g s1 s17 wr => ∃ (i : Nat) (t : Int), i ≤ m ∧ m - i ≤ g ∧ s17 = .int .i64 i ∧ s1 = .int .i64 t ∧ wr = w3 ∧ Hid (T (Q.take i) = t))
  case atStart => exact ⟨0, k, by omega, by omega, rfl, rfl, rfl, (by rw [List.take_zero]; exact TZ.out : T (Q.take 0) = k)⟩
  case round =>
    obtain ⟨i, t, hi, hg, rfl, rfl, hw, A⟩ := hrel
    have hw2 := hw.symm
    clear hw TZ
    subst hw2
    by_cases hlt : i < m
    · obtain ⟨y, hy, hyn⟩ := RP.out (Q.getD i 0) (by rw [getD_elem Q 0 (by rw [HM.out]; exact hlt)]; exact List.getElem_mem _)
      obtain ⟨pb, po, ep, hpc⟩ := HQ3.out i (by rw [HM.out]; exact hlt)
      subst ep
      rw [hy] at hpc
      obtain ⟨nb, no, ea, _, _, _, _, _, _, c6, _⟩ := (HS.out.below HB3.out) y (by rw [HN.out]; exact hyn)
      subst ea
      have hy2 : (y : Int) < (n : Int) := by omega
      have hi2 : (i : Int) < (m : Int) := by omega
      have DC : Hid _ := DCo.out (y : Int)
      have NX : Hid (T (Q.take (i + 1)) = if (y : Int) ∈ P then t else (nd S y).h) := by
        show T (Q.take (i + 1)) = _
        rw [take_getD (by rw [HM.out]; exact hlt), hy, TN2.out, A.out]
      clear hy A
      generalize (nd S y).h = hh at *
      by_cases hc : (y : Int) ∈ P
      · have e1 : decide ((y : Int) ∈ P) = true := decide_eq_true hc
        have A2 : Hid (T (Q.take (i + 1)) = t) := (by rw [NX.out, if_pos hc] : T (Q.take (i + 1)) = t)
        rw [e1] at DC
        clear NX e1 hc
        go_wp2_with fail
        refine Calls.mono DC.out ?_
        rintro e w4 ⟨rfl, hw4⟩
        subst hw4
        go_wp2_with fail
        go_roundg (m - (i + 1))
        case measure => omega
        case rel => exact ⟨i + 1, t, by omega, by omega, by go_num, rfl, rfl, A2⟩
      · have e1 : decide ((y : Int) ∈ P) = false := decide_eq_false hc
        have A2 : Hid (T (Q.take (i + 1)) = hh) := (by rw [NX.out, if_neg hc] : T (Q.take (i + 1)) = hh)
        rw [e1] at DC
        clear NX e1 hc
        go_wp2_with fail
        refine Calls.mono DC.out ?_
        rintro e w4 ⟨rfl, hw4⟩
        subst hw4
        go_wp2_with fail
        go_roundg (m - (i + 1))
        case measure => omega
        case rel => exact ⟨i + 1, hh, by omega, by omega, by go_num, rfl, rfl, A2⟩
    · have hie : i = m := by omega
      subst hie
      have hR : RES = t := by
        rw [T0.out, ← A.out, List.take_of_length_le (by rw [HM.out]; omega)]
      subst hR
      clear A
      go_wp2
      go_ret
      exact ⟨rfl, HB3.out⟩
end Go.Proofs.Ytplkfacaphejgaa

namespace Go.Proofs.Ytplkfacaphejgaa
open Go.RowKit

set_option maxHeartbeats 400000 in
theorem containsFunc_in (K : Nat) (caps : Array Value) (p : Int → Bool) (a : Option Addr) (c : Nat) (ks : List Int) (w : World) (hbig : ks.length ≤ 9223372036854775807) (hks : IntsAt w a ks)
    (eg : ∀ args w, (callFunc K args).run Try.prog w = .ok (.enter K args) w) (hf : ∀ x ∈ ks, ∀ w1, Below w.heap.size w w1 → Calls Try.prog K (#[.int .i64 x] ++ caps) w1 fun e w2 => e = .returned (.bool (p x)) ∧ Below w1.heap.size w1 w2) :
    Calls Try.prog 83 #[.slice a ks.length c, .func (.func K) #[] caps] w fun e w' => e = .returned (.bool (ks.any p)) ∧ Below w.heap.size w w' := by
  have h := indexFunc_in K caps p a c ks w hbig hks eg hf
  have any_of : ∀ k, k < ks.length → p (ks.getD k 0) = true → ks.any p = true := fun k hk hp => List.any_eq_true.2 ⟨ks.getD k 0, by rw [getD_elem _ _ hk]; exact List.getElem_mem hk, hp⟩
  have none_of : (∀ i, i < ks.length → p (ks.getD i 0) = false) → ks.any p = false := fun H => by
    rw [List.any_eq_false]
    intro x hx
    obtain ⟨i, hi, rfl⟩ := List.getElem_of_mem hx
    have := H i hi
    rw [getD_elem _ _ hi] at this
    simp [this]
  have H : Hid _ := any_of
  have N : Hid _ := none_of
  clear any_of none_of hks hf
  go_enter Try.func83, Try.ntmps83
  go_wp2_with (go_at_call 75; refine h.mono ?_; rintro e w' ⟨r, rfl, hb, hr⟩)
  go_ret
  refine ⟨?_, hb⟩
  rcases hr with ⟨rfl, hall⟩ | ⟨k, hk, rfl, hp, _⟩
  · rw [N.out hall]; rfl
  · rw [H.out k hk hp]
    simp

theorem roots_place {S : List Nd} {p q : Nat} (hq : q < S.length) {y : Int} (hy : y ∈ rootsF S p q) : ∃ x : Nat, y = x ∧ x < S.length := by
  obtain ⟨x, _, e1, e2, _⟩ := mem_path hq (mem_roots.1 hy).1
  exact ⟨x, e1, e2⟩

theorem roots_len {S : List Nd} {p q : Nat} : (rootsF S p q).length ≤ S.length + 1 := Nat.le_trans (flt_le _ _) (path_len S q)

theorem seen_low {w w1 : World} {a : Option Addr} {n c : Nat} {p u q v : Int} (hb : Below (w.heap.size + 1 + 1 + 1) (((w.alloc (.cells #[.slice a n c] 24)).alloc (.cells #[.int .i64 p, .int .i64 u] 27)).alloc (.cells #[.int .i64 q, .int .i64 v] 27)) w1) :
    w1.cell? ⟨w.heap.size, 0, none⟩ = some (.slice a n c) ∧ w1.cell? ⟨w.heap.size + 1, 0, none⟩ = some (.int .i64 p) ∧ w1.cell? ⟨w.heap.size + 1, 1, none⟩ = some (.int .i64 u) ∧ w1.cell? ⟨w.heap.size + 1 + 1, 0, none⟩ = some (.int .i64 q) ∧ w1.cell? ⟨w.heap.size + 1 + 1, 1, none⟩ = some (.int .i64 v) := by
  refine ⟨?_, ?_, ?_, ?_, ?_⟩
  all_goals exact (hb.cell (by first | (simp; done) | (simp; omega))).trans (by go_simp)

set_option maxRecDepth 100000 in
set_option maxHeartbeats 2000000 in
theorem path_ok (a : Option Addr) (c : Nat) (S : List Nd) (k : Nat) (u : Int) (w : World) (wf : WF S) (hS : NdsAt w a S) (hk : k < S.length) (hE : findE S k u = 0) :
    Calls Try.prog 11 #[.agg #[.slice a S.length c], .agg #[.int .i64 (k : Int), .int .i64 u]] w fun e w' => ∃ v, e = .returned (.tuple #[v, .int .i64 0]) ∧ Below w.heap.size w w' ∧ w'.ownsRow w.heap.size 3 1 v (pathF S k).length ((pathF S k).map (Value.int .i64)) := by
  have hN := wf.small
  have D0 : Hid (∀ W, NdsAt W a S → Calls _ _ _ _ _) := fun W hW => find_ok a c S k u W (by omega) wf.big hW hk hE (by have := wf.kids_small hk; omega)
  have DP : Hid (∀ W, NdsAt W a S → Calls _ _ _ _ _) := fun W hW => pathFrom_any a c S k W hN hk hW
  have HS : Hid (NdsAt w a S) := hS
  clear hS wf hE
  obtain ⟨x0, hx0⟩ : ∃ x, nd S k = x := ⟨_, rfl⟩
  rw [hx0] at D0
  clear hx0
  generalize pathF S k = R at *
  generalize S.length = n at *
  go_enter Try.func11, Try.ntmps11
  go_wp2_with fail
  refine Calls.mono (D0.out _ (HS.out.below (two_below _ _ _))) ?_
  rintro e w2 ⟨fg, rfl, hb2, _⟩
  simp only [World.size_alloc] at hb2
  have hs2 := hb2.size
  simp only [World.size_alloc] at hs2
  have l0 : w2.cell? ⟨w.heap.size, 0, none⟩ = some (.slice a n c) := (hb2.cell (by simp; omega)).trans (by go_simp)
  have l1 : w2.cell? ⟨w.heap.size + 1, 0, none⟩ = some (.int .i64 (k : Int)) := (hb2.cell (by simp)).trans (by go_simp)
  have HB2 : Hid (Below w.heap.size w w2) := (two_below _ _ _).trans (hb2.mono (by omega))
  have q0 : w.heap.size < w2.heap.size := by omega
  have q1 : w.heap.size + 1 < w2.heap.size := by omega
  clear hb2
  go_wp2_with fail
  refine Calls.mono (DP.out _ (HS.out.below (HB2.out.alloc HB2.out.size _))) ?_
  rintro e w3 ⟨v, rfl, hb3, hown3⟩
  obtain ⟨ra, rc, hrv, _⟩ := own_slice hown3
  have HB3 : Hid (Below w.heap.size w w3) := (HB2.out.alloc HB2.out.size _).trans (hb3.mono (by simp; omega))
  have HO3 : Hid (w3.ownsRow w.heap.size 3 1 v R.length (R.map (Value.int .i64))) := ownsRow_base hown3 (by simp; omega)
  clear hb3 hown3
  subst hrv
  go_wp2
  refine bodyPost_ret (v := .tuple #[.slice ra R.length rc, .int .i64 0]) (by simp [results, Try.results11, go_sem]) rfl ⟨_, rfl, HB3.out, HO3.out⟩

set_option maxRecDepth 100000 in
set_option maxHeartbeats 2000000 in
theorem target_any (a : Option Addr) (c : Nat) (S : List Nd) (k told : Nat) (w : World) (hN : S.length ≤ 24) (hS : NdsAt w a S) (hk : k < S.length) (ht : told < S.length) :
    Calls Try.prog 29 #[.agg #[.slice a S.length c], .int .i64 (k : Int), .int .i64 (told : Int)] w fun e w' => e = .returned (.int .i64 (targetF S k told)) ∧ Below w.heap.size w w' := by
  have DR : Hid (∀ W, NdsAt W a S → Calls _ _ _ _ _) := fun W hW => rootsBetween_any a c S told k W hN ht hk hW
  have RL : Hid ((rootsF S told k).length ≤ 1000) := Nat.le_trans roots_len (by omega)
  have HS : Hid (NdsAt w a S) := hS
  have RP : Hid (∀ y ∈ rootsF S told k, ∃ x : Nat, y = x ∧ x < S.length) := fun y hy => roots_place hk hy
  have TF : Hid (targetF S k told = if rootsF S told k = [] then (k : Int) else (nd S ((rootsF S told k).getLastD 0).toNat).h) := rfl
  clear hS
  generalize rootsF S told k = R at *
  generalize targetF S k told = B at *
  obtain ⟨n, hn⟩ : ∃ n, S.length = n := ⟨_, rfl⟩
  have HN : Hid (S.length = n) := hn
  rw [hn] at DR RP hN hk ht ⊢
  clear hn
  go_enter Try.func29, Try.ntmps29
  go_wp2_with fail
  refine Calls.mono (DR.out _ (HS.out.below ((Below.refl _ _).alloc (Nat.le_refl _) _))) ?_
  rintro e w2 ⟨rv, rfl, hb2, hown2⟩
  simp only [World.size_alloc] at hb2
  have hs2 := hb2.size
  simp only [World.size_alloc] at hs2
  obtain ⟨ra, rc, hrv, hints, _⟩ := own_slice hown2
  have HB2 : Hid (Below w.heap.size w w2) := ((Below.refl _ _).alloc (Nat.le_refl _) _).trans (hb2.mono (by omega))
  have l0 : w2.cell? ⟨w.heap.size, 0, none⟩ = some (.slice a n c) := (hb2.cell (by simp)).trans (by go_simp)
  have HI : Hid (IntsAt w2 ra R) := hints
  clear hb2 hown2 hints
  subst hrv
  by_cases hR : R = []
  · have hB : B = (k : Int) := by rw [TF.out, if_pos hR]
    subst hR
    subst hB
    clear RP TF
    go_wp2
    go_ret
    exact ⟨rfl, HB2.out⟩
  · have hB := TF.out
    rw [if_neg hR, getLastD_ne hR] at hB
    obtain ⟨x, hx, hxn⟩ := RP.out _ (List.getLast_mem hR)
    rw [hx, Int.toNat_natCast] at hB
    obtain ⟨L, hL⟩ : ∃ L, R.length = L + 1 := ⟨R.length - 1, by have := List.length_pos_iff.2 hR; omega⟩
    obtain ⟨rb, ro, hra, hrc⟩ := HI.out L (by omega)
    subst hra
    have hlast : R.getD L 0 = (x : Int) := by
      rw [getD_elem R 0 (by omega), ← hx, List.getLast_eq_getElem]
      congr 1
      omega
    rw [hlast] at hrc
    obtain ⟨nb, no, ea, _, _, _, _, _, _, c6, _⟩ := (HS.out.below HB2.out) x (by rw [HN.out]; exact hxn)
    subst ea
    rw [← hB] at c6
    rw [hL]
    have hx2 : (x : Int) < (n : Int) := by omega
    have hL1 : L + 1 ≤ 1000 := by have := RL.out; omega
    have hL2 : ((L : Int) + 1 == 0) = false := by simp; omega
    clear hB hR hx hL hlast RP TF HI RL DR
    go_wp2
    go_ret
    exact ⟨rfl, HB2.out⟩
end Go.Proofs.Ytplkfacaphejgaa
