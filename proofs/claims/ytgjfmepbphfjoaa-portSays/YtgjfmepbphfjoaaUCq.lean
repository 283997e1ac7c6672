/-
  The reference's Copied: its walk.
-/
import Derived.Test.YtgjfmepbphfjoaaUCo
namespace Go.Proofs.Ytgjfmepbphfjoaa
open Go.RowKit Go.ChangeShapes Go.WideShapes


theorem below_drewNC {B : Nat} {w w' : World} (h : Below B w w') (n : Nat) : Below B w (w'.drewN n) := ⟨h.os, h.tape, h.output, h.size, h.block⟩

set_option maxRecDepth 100000 in
set_option maxHeartbeats 8000000 in
theorem rcopied_any (a : Option Addr) (c : Nat) (G : List Cl) (w : World) (hN : G.length ≤ 9223372036854775807) (hB : BigC G) (hS : ClsAt w a G) :
    Calls Try.prog 33 #[.agg #[.slice a G.length c]] w fun e w' => ∃ v, e = .returned (.tuple #[.agg #[v], .int .i64 (gcheckE G)]) ∧ Below w.heap.size w w' ∧ ∃ K, OwnC w.heap.size (resF G) K v w' := by
  obtain ⟨i0, hi0, hz0, hz1, hz2⟩ := info_parts infoIntC
  have eg := enters_of Try.func55 (by kernel_rfl) rfl
  have D : Hid (∀ W, ClsAt W a G → Calls _ _ _ _ _) := fun W hW => rgcheck_any a c G W hN hB hW
  have HS : Hid (ClsAt w a G) := hS
  have RR : Hid (resF G = if gcheckE G = 0 then copyF G else []) := (rfl : resF G = _)
  have HR : Hid (gcheckE G = 0 → Right G) := fun h => gcheck_zero.1 h
  have NO : Hid (G.length = 0 → copyF G = []) := copyF_none
  clear hS hB
  generalize resF G = R at *
  generalize gcheckE G = E at *
  obtain ⟨n, hn⟩ : ∃ n, G.length = n := ⟨_, rfl⟩
  have HN : Hid (G.length = n) := hn
  rw [hn] at hN D NO ⊢
  clear hn
  have df0 : (((w.alloc (.cells #[.slice a n c] 25)).alloc (.cells #[.slice none 0 0] 25)).frozen? ⟨w.heap.size + 1, 0, none⟩ = false) := by go_simp
  go_enter Try.func33, Try.ntmps33
  go_wp2_with fail
  refine Calls.mono (D.out _ (HS.out.below (two_belowS _ _ _))) ?_
  rintro e w1 ⟨rfl, hb⟩
  have l0 := keepC (alloc_cell1 w #[.slice a n c] 25 0 (.cells #[.slice none 0 0] 25) rfl) hb
  have l1 := keepC (alloc_cell2 w #[.slice none 0 0] 25 0 (.cells #[.slice a n c] 25) rfl) hb
  have f1 := (hb.frozen (p := ⟨w.heap.size + 1, 0, none⟩) (by simp)).trans df0
  have hs1 := hb.size
  simp only [World.size_alloc] at hs1
  have q1 : w.heap.size + 1 < w1.heap.size := by omega
  have q0 : w.heap.size < w1.heap.size := by omega
  have HB : Hid (Below w.heap.size w w1) := (two_belowS w _ _).trans (hb.mono (by simp; omega))
  clear hb D df0
  by_cases hE : E = 0
  rotate_left
  · have RF2 : Hid (R = []) := by show _ = _; rw [RR.out, if_neg hE]
    have e1 : (E == 0) = false := beq_eq_false_iff_ne.2 hE
    have e2 : decide (E = 0) = false := decide_eq_false hE
    have r1 : (w1.setCell ⟨w.heap.size + 1, 0, none⟩ (.slice none 0 0)).cell? ⟨w.heap.size + 1, 0, none⟩ = some (.slice none 0 0) := World.cell?_setCell_same _ _ _ l1
    go_wp2_with fail
    refine bodyPost_ret (v := .tuple #[.agg #[.slice none 0 0], .int .i64 E]) (by simp [results, Try.results33, go_sem, r1]) rfl ⟨_, rfl, HB.out.setCell (by show w.heap.size ≤ w.heap.size + 1; omega) _, _, (show OwnC _ R _ _ _ by rw [RF2.out]; exact OwnC.nil _ _)⟩
  have hRt := HR.out hE
  subst hE
  have RF2 : Hid (R = copyF G) := by show _ = _; rw [RR.out, if_pos rfl]
  clear RR HR
  by_cases h0 : n = 0
  · have RF3 : Hid (R = []) := RF2.out.trans (NO.out h0)
    subst h0
    have W0 : Hid (∀ o1 o2 u, Below w.heap.size w (((w1.setCell ⟨w.heap.size + 1, 0, none⟩ u).alloc o1).alloc o2)) := fun o1 o2 u => (HB.out.setCell (by show w.heap.size ≤ w.heap.size + 1; omega) u).trans ((two_belowS _ o1 o2).mono (by simp [World.setCell]; omega))
    have r1 : ∀ o1 o2 u, (((w1.setCell ⟨w.heap.size + 1, 0, none⟩ u).alloc o1).alloc o2).cell? ⟨w.heap.size + 1, 0, none⟩ = some u := fun o1 o2 u => keepC (World.cell?_setCell_same _ _ _ l1) (two_belowS _ o1 o2)
    clear hRt
    go_wp2_with fail
    go_loopg [8] 1 (fun g s8 wr => s8 = .int .i64 0 ∧ wr = (w1.alloc (.cells #[.slice none 0 0] 25)).alloc (.cells #[.slice none 0 0] 40))
    case atStart => exact ⟨rfl, rfl⟩
    case round =>
      obtain ⟨rfl, rfl⟩ := hrel
      go_wp2_with fail
      refine bodyPost_ret (v := .tuple #[.agg #[.slice none 0 0], .int .i64 0]) (by simp [results, Try.results33, go_sem, r1]) rfl ⟨_, rfl, W0.out _ _ _, _, (show OwnC _ R _ _ _ by rw [RF3.out]; exact OwnC.nil _ _)⟩
  · have h00 : 0 < G.length := by rw [HN.out]; omega
    have hG := hRt.kids
    have hfew := hRt.few
    rw [HN.out] at hfew
    have h01 : (0 : Int) < (n : Int) := by omega
    have PLC : Hid (∀ (k : Nat), k < n → ∀ (vf vo : Value) (T : List Int) (L : List Cl) (K : Nat → Value) (W : World), PlAt W (w1.heap.size + 2) (w1.heap.size + 1) w1.heap.size vf vo T L K → T.length ≤ 1000 → w1.heap.size + 2 ≤ W.heap.size → (∀ i, i < L.length → ∀ b, (K i).ownBlock = some b → vf.ownBlock ≠ some b) → Below w1.heap.size w1 W → Calls Try.prog 55 #[.int .i64 (k : Int), .pointer (some ⟨w1.heap.size + 1, 0, none⟩), .pointer (some ⟨w1.heap.size, 0, none⟩), .pointer (some ⟨w.heap.size, 0, none⟩)] W fun e w' =>
        ∃ vf' vo' K', e = .returned (.int .i64 (at1 (bring T k) k)) ∧ PlAt w' (w1.heap.size + 2) (w1.heap.size + 1) w1.heap.size vf' vo' (bring T k) (if (k : Int) ∈ T then L else L ++ [⟨(cl G k).n, []⟩]) K' ∧ (∀ i b, (K' i).ownBlock = some b → i < (if (k : Int) ∈ T then L else L ++ [⟨(cl G k).n, []⟩]).length → i < L.length ∧ (K i).ownBlock = some b) ∧ (∀ i, i < L.length → K' i = K i) ∧ Later W vf vf' ∧ OffC (PlOff (w1.heap.size + 1) w1.heap.size vf vo) W w') := fun k hk vf vo T L K W h1 h2 h3 h4 h5 => by
      obtain ⟨gb, go, ea, c0, _⟩ := HS.out k (by rw [HN.out]; exact hk)
      subst ea
      have c0' := keepC c0 HB.out
      exact place_any _ w1.heap.size _ _ w.heap.size gb go n c vf vo T L K k _ W h1 h2 h3 ⟨by omega, by omega, by omega⟩ hk h4 (fun W' hW' => ⟨keepC l0 (h5.trans hW'), keepC c0' (h5.trans hW')⟩)
    have P0 : Hid (PlAt ((w1.alloc (.cells #[.slice none 0 0] 25)).alloc (.cells #[.slice none 0 0] 40)) (w1.heap.size + 2) (w1.heap.size + 1) w1.heap.size (.slice none 0 0) (.slice none 0 0) [] [] (fun _ => .slice none 0 0)) := by
      refine ⟨?_, ?_, World.ownsRow_nil _ _ _ _, OwnC.nil _ _, rfl⟩
      · have := heap_alloc_new (w1.alloc (.cells #[.slice none 0 0] 25)) (.cells #[.slice none 0 0] 40)
        simpa using this
      · exact (Below.heap_alloc _ _ _ (by simp)).trans (heap_alloc_new w1 _)
    have PL : Hid (∀ i, i < (bfs G i).length → ∃ y : Nat, (bfs G i).getD i 0 = y ∧ y < G.length) := fun i hi => (bfs_places hG h00 i).2 _ (by rw [getD_elem _ _ hi]; exact List.getElem_mem hi)
    have SH : Hid (∀ i, (bfs G i).length ≤ G.length) := fun i => bfs_short hG h00 i
    have STP : Hid (∀ (i y : Nat), i < (bfs G i).length → (bfs G i).getD i 0 = y → brings (bfs G i) (cl G y).ks = bfs G (i + 1)) := fun i y h1 h2 => by have := bfs_step h1; rwa [h2, Int.toNat_natCast] at this
    have MON : Hid (∀ i, (bfs G i).length ≤ (bfs G (i + 1)).length) := bfs_le G
    have K8 : Hid (∀ i, i < G.length → (cl G i).ks.length ≤ 8) := hRt.kids8
    have KIN : Hid (KidsIn G) := hG
    have END : Hid (∀ i, ¬ i < (bfs G i).length → outF G (bfs G i) i = copyF G) := fun i h => by
      have e := bfs_end hG h00 h
      have h2 : ¬ i < (reach G).length := by rw [← e]; exact h
      rw [e]; exact outF_all h00 (by omega)
    have AT : Hid (∀ (i y j : Nat), i < (bfs G i).length → (bfs G i).getD i 0 = y → j < (cl G y).ks.length → at1 (bring (brings (bfs G i) ((cl G y).ks.take j)) ((cl G y).ks.getD j 0)) ((cl G y).ks.getD j 0) = at1 (reach G) ((cl G y).ks.getD j 0)) := fun i y j h1 h2 h3 => at1_step hG h00 h1 h2 h3
    have O0 : Hid (([] : List Cl) ++ [⟨(cl G 0).n, []⟩] = outF G (bfs G 0) 0) := (outF_bring (G := G) (T := []) (d := 0) (k := 0) (by simp)).symm ▸ (by rw [if_neg (by simp)]; rfl)
    have pl0 := PLC.out 0 (by omega) (.slice none 0 0) (.slice none 0 0) [] [] (fun _ => .slice none 0 0) _ P0.out (by simp) (by simp) (fun i hi => by cases hi) (two_belowS _ _ _)
    have e00 : ((0 : Nat) : Int) = 0 := rfl
    rw [e00] at pl0
    have PL0 : Hid _ := pl0
    clear hRt hG pl0 e00 P0
    rw [HN.out] at PL SH K8
    go_wp2_with fail
    refine Calls.mono PL0.out ?_
    rintro e w2 ⟨vf, vo, K, rfl, hpl, hkk, _, _, hof⟩
    have hs2 := hof.size
    simp only [World.size_alloc] at hs2
    have HB2 : Hid (Below w1.heap.size w1 w2) := (two_belowS w1 _ _).trans (hof.below (by simp; omega) (fun j hj => by rcases hj with e | e | e | e <;> first | omega | cases e))
    have PL1 : Hid (PlAt w2 (w1.heap.size + 2) (w1.heap.size + 1) w1.heap.size vf vo (bfs G 0) (outF G (bfs G 0) 0) K) := by
      have h := hpl
      rw [if_neg (by simp), O0.out] at h
      exact h
    have KF1 : Hid (∀ i, i < (outF G (bfs G 0) 0).length → ∀ b, (K i).ownBlock = some b → vf.ownBlock ≠ some b) := fun i hi b hb => by
      rw [← O0.out] at hi
      have := hkk i b hb (by rw [if_neg (by simp)]; exact hi)
      exact absurd this.1 (Nat.not_lt_zero _)
    clear hpl hkk hof PL0 O0
    go_wp2_with fail
    go_loopg [8] n (fun g s8 wr => ∃ (i : Nat) (vf vo : Value) (K : Nat → Value), i ≤ n ∧ n - i ≤ g ∧ s8 = .int .i64 i ∧ i ≤ (bfs G i).length ∧ w1.heap.size + 2 ≤ wr.heap.size ∧ Hid (PlAt wr (w1.heap.size + 2) (w1.heap.size + 1) w1.heap.size vf vo (bfs G i) (outF G (bfs G i) i) K) ∧ Hid (∀ j, j < (outF G (bfs G i) i).length → ∀ b, (K j).ownBlock = some b → vf.ownBlock ≠ some b) ∧ Hid (Below w1.heap.size w1 wr))
    case atStart => exact ⟨0, vf, vo, K, by omega, by omega, rfl, Nat.zero_le _, by omega, PL1, KF1, HB2⟩
    case round =>
      obtain ⟨i, vf, vo, K, hi, hgk, rfl, hil, hsz, HPL, HKF, HBr⟩ := hrel
      clear PL1 KF1 HB2
      have HBW : Hid (Below w.heap.size w wr) := HB.out.trans (HBr.out.mono HB.out.size)
      have m0 := keepC l0 HBr.out
      have m1 := keepC l1 HBr.out
      have mf := (HBr.out.frozen (p := ⟨w.heap.size + 1, 0, none⟩) (by exact q1)).trans f1
      have bF := box_cell HPL.out.bfE
      have bO := box_cell HPL.out.boE
      have y0 := World.block_lt_of_cell? _ _ m0
      have y1 := World.block_lt_of_cell? _ _ m1
      obtain ⟨ta, tc, hv, hti⟩ := ints_own HPL.out.ownF
      subst hv
      obtain ⟨oa, oc, hv8, _⟩ := HPL.out.ownO.cls
      subst hv8
      have SHi := SH.out i
      have OL : Hid ((outF G (bfs G i) i).length = (bfs G i).length) := outF_len _ _ _
      by_cases hlt : i < (bfs G i).length
      · obtain ⟨y, hy, hyn⟩ := PL.out i hlt
        obtain ⟨tb, tof, et, htc⟩ := hti i hlt
        subst et
        rw [hy] at htc
        obtain ⟨gb, go, eg2, c0, ka, kc, c1, hki⟩ := HS.out y (by rw [HN.out]; exact hyn)
        subst eg2
        have d1 := keepC c1 HBW.out
        have HKI : Hid (∀ W', Below w1.heap.size wr W' → IntsAt W' ka (cl G y).ks) := fun W' hW' => hki.below (HBW.out.trans (hW'.mono HB.out.size))
        have hin : (i : Int) < ((bfs G i).length : Int) := by omega
        have hyn2 : (y : Int) < (n : Int) := by omega
        have k8 := K8.out y hyn
        have ATi : Hid (∀ j, j < (cl G y).ks.length → at1 (bring (brings (bfs G i) ((cl G y).ks.take j)) ((cl G y).ks.getD j 0)) ((cl G y).ks.getD j 0) = at1 (reach G) ((cl G y).ks.getD j 0)) := fun j hj => AT.out i y j hlt hy hj
        have STi : Hid _ := STP.out i y hlt hy
        have MO := MON.out i
        have KQ : Hid (∀ j, j < (cl G y).ks.length → ∃ q : Nat, (cl G y).ks.getD j 0 = q ∧ q < n) := fun j hj => by
          obtain ⟨q, e, hq⟩ := KIN.out y (by rw [HN.out]; exact hyn) ((cl G y).ks.getD j 0) (by rw [getD_elem _ _ hj]; exact List.getElem_mem hj)
          exact ⟨q, e, by rw [← HN.out]; exact hq⟩
        have CPY : Hid (copyC G (reach G) (y : Int) = ⟨(cl G y).n, (cl G y).ks.map (at1 (reach G))⟩) := by show _ = _; unfold copyC; rw [Int.toNat_natCast]
        have GET : Hid (∀ T', bfs G (i + 1) = T' → T'.getD i 0 = (y : Int)) := fun T' e => by
          obtain ⟨r, hr⟩ := bfs_pre G i
          rw [← e, hr, getD_elem _ _ (by simp; omega), List.getElem_append_left hlt, ← getD_elem _ 0 hlt, hy]
        have z2 := box_lt HPL.out.bfE
        have z3 := World.block_lt_of_cell? _ _ htc
        have z4 := World.block_lt_of_cell? _ _ d1
        have HPL0 : Hid (PlAt wr (w1.heap.size + 2) (w1.heap.size + 1) w1.heap.size (.slice (some ⟨tb, tof, none⟩) (bfs G i).length tc) (.slice oa (outF G (bfs G i) i).length oc) (brings (bfs G i) ((cl G y).ks.take 0)) (outF G (brings (bfs G i) ((cl G y).ks.take 0)) i) K) := HPL.out
        have HKF0 : Hid (∀ j, j < (outF G (brings (bfs G i) ((cl G y).ks.take 0)) i).length → ∀ b, (K j).ownBlock = some b → (Value.slice (some ⟨tb, tof, none⟩) (bfs G i).length tc).ownBlock ≠ some b) := HKF.out
        clear hti hki c0 c1 hy HPL HKF
        generalize (outF G (bfs G i) i).length = ol at *
        obtain ⟨ks, hks⟩ : ∃ z, (cl G y).ks = z := ⟨_, rfl⟩
        rw [hks] at d1 HKI k8 ATi STi KQ CPY HPL0 HKF0
        obtain ⟨kl, hkl⟩ : ∃ z, ks.length = z := ⟨_, rfl⟩
        have HKL : Hid (ks.length = kl) := hkl
        rw [hkl] at d1 k8 ATi KQ
        obtain ⟨Ti, hTi⟩ : ∃ z, bfs G i = z := ⟨_, rfl⟩
        rw [hTi] at hlt hin ATi STi HPL0 HKF0 SHi hil MO bF
        obtain ⟨tl, htl⟩ : ∃ z, Ti.length = z := ⟨_, rfl⟩
        have HTL : Hid (Ti.length = tl) := htl
        rw [htl] at hlt hin SHi hil MO bF HPL0 HKF0
        have BTL : Hid (∀ j, (brings Ti (ks.take j)).length ≤ tl + j) := fun j => by
          induction j with
          | zero => simp [brings, HTL.out]
          | succ j ih =>
            by_cases hj : j < ks.length
            · rw [brings_take hj]
              unfold bring
              split
              · omega
              · rw [List.length_append, List.length_singleton]; omega
            · rw [List.take_of_length_le (by omega)] at ih ⊢
              omega
        have BGE : Hid (∀ j, tl ≤ (brings Ti (ks.take j)).length) := fun j => by
          obtain ⟨r, hr⟩ := brings_pre (ks.take j) Ti
          rw [hr, List.length_append, HTL.out]; omega
        clear hks hkl hTi htl
        obtain ⟨V6, hV6⟩ : ∃ V6, V6 = wr := ⟨_, rfl⟩
        subst hV6
        go_wp2_with fail
        go_big_quiet (fail)
        go_wp2_with fail
        go_loopg [9, 41] kl (fun g s9 s41 w5 => ∃ (j : Nat) (vf vo : Value) (K : Nat → Value), j ≤ kl ∧ kl - j ≤ g ∧ s41 = .int .i64 j ∧ w1.heap.size + 2 ≤ w5.heap.size ∧ Hid (PlAt w5 (w1.heap.size + 2) (w1.heap.size + 1) w1.heap.size vf vo (brings Ti (ks.take j)) (outF G (brings Ti (ks.take j)) i) K) ∧ Hid (∀ q, q < (outF G (brings Ti (ks.take j)) i).length → ∀ b, (K q).ownBlock = some b → vf.ownBlock ≠ some b ∧ s9.ownBlock ≠ some b) ∧ Hid (Below w1.heap.size V6 w5) ∧ Hid (w5.ownsRow (w1.heap.size + 2) 3 1 s9 j (((ks.take j).map (at1 (reach G))).map (Value.int .i64))) ∧ Hid (∀ b, s9.ownBlock = some b → vf.ownBlock ≠ some b))
        case atStart =>
          exact ⟨0, _, _, K, by omega, by omega, rfl, hsz, HPL0.out.kept (fun _ _ _ => rfl), (show Hid _ from fun q hq b hb => ⟨HKF0.out q hq b hb, fun e => by cases e⟩), below_drewNC (Below.refl _ _) _, (show World.ownsRow _ _ _ _ _ _ _ from World.ownsRow_nil _ _ _ _), (show Hid _ from fun b hb => by cases hb)⟩
        case round =>
          obtain ⟨j, vf, vo, K2, hj, hg2, rfl, hsz5, HP5, HK5, HB5, HS9, HSF⟩ := hrel
          clear HPL0 HKF0
          have hlj : ((ks.take j).map (at1 (reach G))).length = j := by rw [List.length_map, List.length_take, HKL.out]; omega
          have HBF5 : Hid (Below w1.heap.size w1 wr) := HBr.out.trans HB5.out
          obtain ⟨sa, sc, hv9, _⟩ := ints_own HS9.out
          rw [hlj] at hv9
          subst hv9
          have BG := BGE.out j
          have BT := BTL.out j
          by_cases hlt3 : j < kl
          · have hlt4 : (j : Int) < (kl : Int) := by omega
            obtain ⟨q, eq, hq⟩ := KQ.out j hlt3
            obtain ⟨kb, ko, ek, hkc⟩ := HKI.out wr HB5.out j (by rw [HKL.out]; exact hlt3)
            subst ek
            rw [eq] at hkc
            have ATj : Hid (at1 (bring (brings Ti (ks.take j)) (q : Int)) (q : Int) = at1 (reach G) (q : Int)) := by have h := ATi.out j hlt3; rw [eq] at h; exact h
            have hjk : j < ks.length := by rw [HKL.out]; exact hlt3
            have BT1 : Hid (brings Ti (ks.take (j + 1)) = bring (brings Ti (ks.take j)) (q : Int)) := by have h := brings_take (T := Ti) hjk; rw [eq] at h; exact h
            have TK1 : Hid (((ks.take j).map (at1 (reach G))).map (Value.int .i64) ++ [.int .i64 (at1 (reach G) (q : Int))] = ((ks.take (j + 1)).map (at1 (reach G))).map (Value.int .i64)) := by
              show _ = _
              rw [List.take_succ_eq_append_getElem hjk, List.map_append, List.map_append, ← getD_elem ks 0 hjk, eq]
              rfl
            have pc := PLC.out q hq vf vo _ _ K2 wr HP5.out (by omega) hsz5 (fun i hi b hb => (HK5.out i hi b hb).1) HBF5.out
            rw [ATj.out] at pc
            have PC : Hid _ := pc
            clear pc hlj
            obtain ⟨Tj, hTj⟩ : ∃ z, brings Ti (ks.take j) = z := ⟨_, rfl⟩
            rw [hTj] at PC BT1 HP5 HK5 BG BT
            clear hTj ATj eq hjk
            generalize at1 (reach G) (q : Int) = A at *
            go_wp2_with fail
            refine Calls.mono PC.out ?_
            rintro e w6 ⟨vf6, vo6, K6, rfl, hpl6, hkk6, hk26, hla6, hof6⟩
            rw [outF_bring (by omega)] at hpl6 hkk6
            have hs6 := hof6.size
            have S6 : Hid (w6.ownsRow (w1.heap.size + 2) 3 1 (.slice sa j sc) j (((ks.take j).map (at1 (reach G))).map (Value.int .i64))) := owns_block HS9.out (fun b hb => hof6.block b (HS9.out.lt b hb).2 (by
              have h1 := (HS9.out.lt b hb).1
              rintro (e | e | e | e)
              · omega
              · omega
              · exact HSF.out b hb e
              · exact owns_apart HS9.out HP5.out.ownO.1 (by decide) b hb e))
            have SF6 : Hid (∀ b, (Value.slice sa j sc).ownBlock = some b → vf6.ownBlock ≠ some b) := fun b hb e => by
              rcases hla6 with h1 | ⟨x, h1, h2⟩
              · exact HSF.out b hb (h1.symm.trans e)
              · rw [h1] at e
                cases e
                have := (HS9.out.lt b hb).2
                omega
            have KF6 : Hid (∀ r, r < (outF G (bring Tj (q : Int)) i).length → ∀ b, (K6 r).ownBlock = some b → vf6.ownBlock ≠ some b ∧ (Value.slice sa j sc).ownBlock ≠ some b ∧ b < wr.heap.size) := fun r hr b hb => by
              obtain ⟨h1, h2⟩ := hkk6 r b hb hr
              obtain ⟨h3, h4⟩ := HK5.out r h1 b h2
              have h5 := ((HP5.out.ownO.2 r h1).lt b h2).2
              refine ⟨fun e => ?_, h4, h5⟩
              rcases hla6 with h6 | ⟨x, h6, h7⟩
              · exact h3 (h6.symm.trans e)
              · rw [h6] at e
                cases e
                omega
            have HP6 : Hid (PlAt w6 (w1.heap.size + 2) (w1.heap.size + 1) w1.heap.size vf6 vo6 (bring Tj (q : Int)) (outF G (bring Tj (q : Int)) i) K6) := hpl6
            have HB6 : Hid (Below w1.heap.size V6 w6) := HB5.out.trans (hof6.below (by omega) (fun b hb => by
              rcases hb with e | e | e | e
              · omega
              · omega
              · have := (HP5.out.ownF.lt b e).1; omega
              · have := (HP5.out.ownO.1.lt b e).1; omega))
            have OWA : Hid (∀ o1, (w6.alloc o1).ownsRow (w1.heap.size + 2) 3 1 (.slice sa j sc) j (((ks.take j).map (at1 (reach G))).map (Value.int .i64))) := fun o1 => S6.out.alloc _
            clear hpl6 hkk6 hk26 hla6 hof6 PC
            generalize (((ks.take j).map (at1 (reach G))).map (Value.int .i64)) = XS at *
            go_wp2_with (at_builtin; refine wpList_append_own_at _ rfl _ _ 40 rfl (w1.heap.size + 2) 3 i0 (.int .i64 0) 1 8 Try.underlying40 hi0 hz0 hz1 hz2 rfl (by decide) (.slice sa j sc) j XS rfl (OWA.out _) ⟨w6.heap.size, 0, none⟩ 1 1 [.int .i64 A] rfl rfl (cell_one_new _ _ _) ?c2 ?c3 ?c4 ?c5 ?_)
            case c2 => intro u hu; simp at hu; subst hu; rfl
            case c3 => unfold maxLen; omega
            case c4 => omega
            case c5 => simp; omega
            intro v7 w7 own7 grow7 _ hat
            rw [TK1.out] at own7
            have hs7 := grow7.size
            simp only [World.size_alloc] at hs7
            have far7 : ∀ b, b < w6.heap.size → (Value.slice sa j sc).ownBlock ≠ some b → w7.heap[b]? = w6.heap[b]? := fun b h1 h2 => (grow7.block b (by simp; omega) (fun e => h2 e.symm)).trans (Below.heap_alloc _ _ _ h1)
            have hat2 : v7.ownBlock = (Value.slice sa j sc).ownBlock ∨ ∃ x, v7.ownBlock = some x ∧ w6.heap.size ≤ x := by
              rcases hat with h1 | h1
              · exact Or.inl h1
              · exact Or.inr ⟨_, h1, by first | omega | (simp; omega)⟩
            have FP : Hid (PlAt w7 (w1.heap.size + 2) (w1.heap.size + 1) w1.heap.size vf6 vo6 (brings Ti (ks.take (j + 1))) (outF G (brings Ti (ks.take (j + 1))) i) K6) := by
              rw [BT1.out]
              refine HP6.out.kept (fun b hb hx => far7 b hb (fun e => ?_))
              have h1 := (S6.out.lt b e).1
              rcases hx with (e2 | e2 | e2 | e2) | ⟨r, hr, e2⟩
              · omega
              · omega
              · exact SF6.out b e e2
              · exact owns_apart S6.out HP6.out.ownO.1 (by decide) b e e2
              · exact (KF6.out r hr b e2).2.1 e
            have FK : Hid (∀ r, r < (outF G (brings Ti (ks.take (j + 1))) i).length → ∀ b, (K6 r).ownBlock = some b → vf6.ownBlock ≠ some b ∧ v7.ownBlock ≠ some b) := fun r hr b hb => by
              rw [BT1.out] at hr
              obtain ⟨h1, h2, h3⟩ := KF6.out r hr b hb
              refine ⟨h1, fun e => ?_⟩
              rcases hat2 with h4 | ⟨x, h4, h5⟩
              · exact h2 (h4.symm.trans e)
              · rw [h4] at e
                cases e
                omega
            have FS : Hid (∀ b, v7.ownBlock = some b → vf6.ownBlock ≠ some b) := fun b hb e => by
              rcases hat2 with h4 | ⟨x, h4, h5⟩
              · exact SF6.out b (h4.symm.trans hb) e
              · rw [h4] at hb
                cases hb
                have := (HP6.out.ownF.lt b e).2
                omega
            have FB : Hid (Below w1.heap.size V6 w7) := (HB6.out.alloc (by omega) _).grown grow7 (by simp; omega) (fun b hb => by have := (S6.out.lt b hb).1; omega)
            have FO : Hid _ := own7
            clear own7 grow7 far7 hat hat2
            go_wp2_with fail
            go_roundg (kl - (j + 1))
            case measure => omega
            case rel => exact ⟨j + 1, vf6, vo6, K6, by omega, by omega, by go_num, by omega, FP, FK, FB, FO, FS⟩
          · have hje : kl = j := by omega
            subst hje
            have eT : brings Ti (ks.take kl) = bfs G (i + 1) := by rw [List.take_of_length_le (by rw [HKL.out]; omega)]; exact STi.out
            have eK : ks.take kl = ks := List.take_of_length_le (by rw [HKL.out]; omega)
            rw [eT] at HP5 HK5 BG
            rw [eK] at HS9
            have g1 := GET.out _ rfl
            have hol : (outF G (bfs G (i + 1)) i).length = (bfs G (i + 1)).length := outF_len _ _ _
            have hi1 : i < (outF G (bfs G (i + 1)) i).length := by rw [hol]; omega
            obtain ⟨og, oc2, hvo⟩ : ∃ og oc2, vo = .slice (some ⟨og, 0, none⟩) (outF G (bfs G (i + 1)) i).length oc2 := by
              rcases HP5.out.ownO.1.2 with ⟨_, h⟩ | ⟨g, cap, cur, h, _⟩
              · omega
              · exact ⟨g, cap, h⟩
            subst hvo
            have hcn : (cl (outF G (bfs G (i + 1)) i) i).n = (cl G y).n := by rw [outF_cl (by omega), if_neg (by omega), g1, Int.toNat_natCast]
            have rcell := HP5.out.ownO.1.cellAt (i * 2 + 1) (by omega)
            obtain ⟨ov, hov⟩ : ∃ ov, (ccells (outF G (bfs G (i + 1)) i) K2)[i * 2 + 1]? = some ov := ⟨_, List.getElem?_eq_getElem (by have := ccells_len (outF G (bfs G (i + 1)) i) K2 (outF G (bfs G (i + 1)) i).length; unfold ccells; omega)⟩
            rw [hov] at rcell
            have rfz := HP5.out.ownO.1.frozenAt (i * 2 + 1)
            have bO5 := box_cell HP5.out.boE
            have put := HP5.out.ownO.putK hi1 (ks.map (at1 (reach G))) (.slice sa kl sc) (by rw [List.length_map, HKL.out]; exact HS9.out)
            have esc : (⟨(cl (outF G (bfs G (i + 1)) i) i).n, ks.map (at1 (reach G))⟩ : Cl) = copyC G (reach G) ((bfs G (i + 1)).getD i 0) := by rw [hcn, g1]; exact CPY.out.symm
            rw [esc, outF_set] at put
            have rowb := box_rowC HP5.out.bfE HP5.out.ownO.1 (by decide)
            have rowo := box_rowC HP5.out.boE HP5.out.ownO.1 (by decide)
            have FP : Hid (PlAt (wr.setCell ⟨og, i * 2 + 1, none⟩ (.slice sa kl sc)) (w1.heap.size + 2) (w1.heap.size + 1) w1.heap.size vf (.slice (some ⟨og, 0, none⟩) (outF G (bfs G (i + 1)) i).length oc2) (bfs G (i + 1)) (outF G (bfs G (i + 1)) (i + 1)) (fun r => if r = i then .slice sa kl sc else K2 r)) := by
              refine ⟨(Below.heap_setCell _ _ _ _ (fun e => rowb (by rw [show og = w1.heap.size + 1 from e.symm]; rfl))).trans HP5.out.bfE, (Below.heap_setCell _ _ _ _ (fun e => rowo (by rw [show og = w1.heap.size from e.symm]; rfl))).trans HP5.out.boE, owns_block HP5.out.ownF (fun b hb => Below.heap_setCell _ _ _ _ (fun e => owns_apart HP5.out.ownF HP5.out.ownO.1 (by decide) b hb (by rw [show b = og from e]; rfl))), put, by rw [outF_len]⟩
            have FK : Hid (∀ r, r < (outF G (bfs G (i + 1)) (i + 1)).length → ∀ b, ((fun r => if r = i then Value.slice sa kl sc else K2 r) r).ownBlock = some b → vf.ownBlock ≠ some b) := fun r hr b hb => by
              by_cases e : r = i
              · simp only [if_pos e] at hb
                exact HSF.out b hb
              · simp only [if_neg e] at hb
                rw [outF_len] at hr
                exact (HK5.out r (by rw [hol]; exact hr) b hb).1
            have FB : Hid (Below w1.heap.size w1 (wr.setCell ⟨og, i * 2 + 1, none⟩ (.slice sa kl sc))) := HBF5.out.setCell (by show w1.heap.size ≤ og; have := (HP5.out.ownO.1.lt og rfl).1; omega) _
            have q9 := World.block_lt_of_cell? _ _ rcell
            have i3 : (i : Int) < ((outF G (bfs G (i + 1)) i).length : Int) := by omega
            have i4 : i + 1 ≤ (bfs G (i + 1)).length := by omega
            clear put esc hcn hov rowb rowo hol hi1 g1 eT eK
            generalize (outF G (bfs G (i + 1)) i).length = ol2 at *
            go_wp2_with fail
            go_roundg (n - (i + 1))
            case measure => omega
            case rel => exact ⟨i + 1, vf, _, _, by omega, by omega, by go_num, i4, by simp [World.setCell]; omega, FP, FK, FB⟩
      · have e2 := END.out i hlt
        have FIN : Hid (∀ va, OwnC w.heap.size R K (.slice oa (outF G (bfs G i) i).length oc) (wr.setCell ⟨w.heap.size + 1, 0, none⟩ va)) := fun va => by
          have h := HPL.out.ownO
          rw [RF2.out, ← e2]
          have h1 := h.kept (w' := wr.setCell ⟨w.heap.size + 1, 0, none⟩ va) (fun b h1 _ _ => Below.heap_setCell _ _ _ _ (by show b ≠ w.heap.size + 1; omega))
          exact ⟨ownsRow_baseL h1.1 (by omega), fun r hr => ownsRow_baseL (h1.2 r hr) (by omega)⟩
        have hlt2 : ¬ (i : Int) < ((bfs G i).length : Int) := by omega
        have r1 : ∀ u, (wr.setCell ⟨w.heap.size + 1, 0, none⟩ u).cell? ⟨w.heap.size + 1, 0, none⟩ = some u := fun u => World.cell?_setCell_same _ _ _ m1
        have HBF : Hid (∀ u, Below w.heap.size w (wr.setCell ⟨w.heap.size + 1, 0, none⟩ u)) := fun u => HBW.out.setCell (by show w.heap.size ≤ w.heap.size + 1; omega) _
        clear hti e2 HPL HKF OL
        generalize (outF G (bfs G i) i).length = ol at *
        generalize (bfs G i).length = tl at *
        go_wp2_with fail
        refine bodyPost_ret (v := .tuple #[.agg #[.slice oa ol oc], .int .i64 0]) (by simp [results, Try.results33, go_sem, r1]) rfl ⟨_, rfl, HBF.out _, K, FIN.out _⟩
end Go.Proofs.Ytgjfmepbphfjoaa
