/-
  FrameMay at whatever arguments.
-/
import Derived.Test.YtfnfcldkadfpmaaJFg
namespace Go.Proofs.Ytfnfcldkadfpmaa
open Go.RowKit
set_option linter.unusedVariables false

theorem frs_take {w : World} {a : Option Addr} {L M : List Fr} (h : FrsAt w a (L ++ M)) : FrsAt w a L := fun i hi => by
  have := h i (by rw [List.length_append]; omega)
  rwa [fr_left hi] at this

theorem slice_uptoF (g n m : Nat) (hn : n ≤ 1000) : ∀ W, (Instr.slice 22 (.slice (some ⟨g, 0, none⟩) (n + 1) (n + 1)) none (some (.int .i64 (n : Int))) none).run Try.prog W = .ok (.slice (some ⟨g, 0, none⟩) n (n + 1)) W := fun W => by
  have h1 : ¬ ((n + 1 : Nat) : Int) = (n : Int) := by omega
  have h1b : ¬ ((n : Int) + 1 = (n : Int)) := by omega
  have h2 : (n : Int) ≤ (n : Int) + 1 := by omega
  have h3 : (0 : Int) ≤ (n : Int) := by omega
  go_simp
  try omega

set_option maxRecDepth 100000 in
set_option maxHeartbeats 2000000 in
theorem frameMay_err (a : Option Addr) (c : Nat) (L : List Fr) (k o m : Int) (w : World) (hN : L.length ≤ 9223372036854775807) (hL : FrsAt w a L) (hE : fcheckE L ≠ 0) :
    Calls Try.prog 4 #[.slice a L.length c, .int .i64 k, .int .i64 o, .int .i64 m] w fun e w' => e = .returned (.bool true) ∧ Below w.heap.size w w' := by
  have DF : Hid FramedOk := framed_ok
  have DC : Hid (∀ W, FrsAt W a L → _) := fun W hW => fcheck_any a c L W hN hW
  have HL : Hid (FrsAt w a L) := hL
  have e2 : decide (fcheckE L = 0) = false := decide_eq_false hE
  clear hL
  generalize fcheckE L = E at *
  obtain ⟨n, hn⟩ : ∃ n, L.length = n := ⟨_, rfl⟩
  rw [hn] at hN DC ⊢
  clear hn
  go_enter Try.func4, Try.ntmps4
  go_wp2_with fail
  refine Calls.mono (DF.out _) ?_
  rintro e w1 ⟨rfl, hb1⟩
  have HB1 : Hid (Below w.heap.size w w1) := hb1
  clear hb1
  go_wp2_with fail
  refine Calls.mono (DC.out _ (HL.out.below HB1.out)) ?_
  rintro e w2 ⟨rfl, hb2⟩
  have HB2 : Hid (Below w.heap.size w w2) := HB1.out.trans (hb2.mono HB1.out.size)
  clear hb2
  go_wp2_with fail
  refine Calls.mono (DF.out _) ?_
  rintro e w3 ⟨rfl, hb3⟩
  have HB3 : Hid (Below w.heap.size w w3) := HB2.out.trans (hb3.mono HB2.out.size)
  clear hb3
  go_wp2_with fail
  go_ret
  exact ⟨rfl, HB3.out⟩

set_option maxRecDepth 100000 in
set_option maxHeartbeats 4000000 in
theorem frameMay_ok (a : Option Addr) (c : Nat) (L : List Fr) (k o m : Int) (w : World) (hL : FrsAt w a L) (R : RightF L) :
    Calls Try.prog 4 #[.slice a L.length c, .int .i64 k, .int .i64 o, .int .i64 m] w fun e w' => e = .returned (.bool true) ∧ Below w.heap.size w w' := by
  have hN := R.few
  have hE := fcheck_zero.2 R
  have DF : Hid FramedOk := framed_ok
  have DC : Hid (∀ W, FrsAt W a L → Calls Try.prog 14 #[.slice a L.length c] W fun e w' => e = .returned (.int .i64 0) ∧ Below W.heap.size W w') := fun W hW => by
    have := fcheck_any a c L W (by omega) hW
    rwa [hE] at this
  have HL : Hid (FrsAt w a L) := hL
  have DW : Hid (∀ (j i : Nat) (W : World), FrsAt W a L → _) := fun j i W hW => fwithin_any a c L (j : Int) (i : Int) W (by omega) hW
  have WM : Hid (∀ i j : Nat, i < L.length → j < L.length → inF L j i = true → bits .andNot .i64 (fr L j).m (fr L i).m = 0) := fun i j hi hj h => with_may R hi _ j hj h
  have DWk : Hid (∀ (j : Nat) (W : World), FrsAt W a L → _) := fun j W hW => fwithin_any a c L (j : Int) k W (by omega) hW
  have DD : Hid (∀ W, FrsAt W a L → _) := fun W hW => discard_any a c L k W (by omega) hW
  have DDC : Hid (∀ va vc W, heldE L k = 0 → FrsAt W va (disF L k) → Calls Try.prog 14 #[.slice va L.length vc] W fun e w' => e = .returned (.int .i64 0) ∧ Below W.heap.size W w') := fun va vc W h hW => by
    have := fcheck_any va vc (disF L k) W (by rw [dis_len]; omega) hW
    rwa [dis_len, fcheck_zero.2 (dis_right R k)] at this
  have DDL : Hid (∀ va vc W, heldE L k = 0 → FrsAt W va (disF L k) → Calls Try.prog 8 #[.slice va L.length vc, .int .i64 k] W fun e w' => e = .returned (.tuple #[.int .i64 0, .int .i64 5]) ∧ Below W.heap.size W w') := fun va vc W h hW => by
    obtain ⟨_, q, rfl, hq, hg⟩ := held_zero h
    have hh : heldE (disF L q) q = 5 := by
      unfold heldE
      rw [if_pos (fcheck_zero.2 (dis_right R q)), dis_holds hq]
    have := length_err va vc (disF L q) q W (by rw [dis_len]; omega) hW (by rw [hh]; decide)
    rwa [dis_len, hh] at this
  have DAT : Hid (∀ i, i < L.length → fr (disF L k) i = { fr L i with g := (fr L i).g || inF L i k }) := fun i hi => dis_at hi
  by_cases hA : attE L k o m = 0
  · have DA : Hid (∀ W, FrsAt W a L → _) := fun W hW => attach_ok a c L k o m W (by omega) hW hA
    obtain ⟨h, ho, hm, h3, h4⟩ := att_zero hA
    obtain ⟨_, q, rfl, hq, hg⟩ := held_zero h
    rw [Int.toNat_natCast] at h3
    obtain ⟨b, ao, ea, _, _, x2, _, _⟩ := hL q hq
    subst ea
    have DCA : Hid (∀ g W, FrsAt W (some ⟨g, 0, none⟩) (L ++ [attF L q o m]) → Calls Try.prog 14 #[.slice (some ⟨g, 0, none⟩) (L.length + 1) (L.length + 1)] W fun e w' => e = .returned (.int .i64 0) ∧ Below W.heap.size W w') := fun g W hW => by
      have := fcheck_any (some ⟨g, 0, none⟩) (L.length + 1) (L ++ [attF L q o m]) W (by simp; omega) hW
      rwa [List.length_append, List.length_singleton, fcheck_zero.2 (att_right hA)] at this
    have DQ : Hid (∀ g W, FrsAt W (some ⟨g, 0, none⟩) (L ++ [attF L q o m]) → FrsAt W (some ⟨b, ao, none⟩) L → _) := fun g W h1 h2 => equalFrs_same (some ⟨g, 0, none⟩) (some ⟨b, ao, none⟩) (L.length + 1) c L W (by omega) (frs_take h1) h2
    have LAST : Hid (∀ g W, FrsAt W (some ⟨g, 0, none⟩) (L ++ [attF L q o m]) → W.cell? ⟨g, L.length * 5 + 2, none⟩ = some (.int .i64 (bits .and .i64 m (fr L q).m))) := fun g W hW => by
      obtain ⟨b', o', e, _, _, h2, _, _⟩ := hW L.length (by simp)
      cases e
      rw [fr_last, Nat.zero_add] at h2
      exact h2
    have hm1 := R.may hq
    have z1 := an_right hm.1 hm.2 hm1.1 hm1.2
    have z2 := an_left hm.1 hm.2 hm1.1 hm1.2
    clear hL R hE hA h h4 hg ho hm hm1
    generalize (fr L q).m = pm at *
    generalize L ++ [attF L q o m] = A at *
    have y1 : decide (bits .andNot .i64 (bits .and .i64 m pm) pm = 0) = true := decide_eq_true z1
    have y2 : decide (bits .andNot .i64 (bits .and .i64 m pm) m = 0) = true := decide_eq_true z2
    have y3 : decide (bits .and .i64 pm 4 = 0) = false := decide_eq_false h3
    have y4 : (bits .and .i64 pm 4 == 0) = false := beq_eq_false_iff_ne.2 h3
    obtain ⟨n, hn⟩ : ∃ n, L.length = n := ⟨_, rfl⟩
    have HN : Hid (L.length = n) := hn
    rw [hn] at hN hq DC DW WM DWk DD DDC DDL DAT DA DCA DQ LAST ⊢
    clear hn
    have hq2 : (q : Int) < (n : Int) := by omega
    go_enter Try.func4, Try.ntmps4
    go_wp2_with fail
    refine Calls.mono (DF.out _) ?_
    rintro e w1 ⟨rfl, hb1⟩
    have HB1 : Hid (Below w.heap.size w w1) := hb1
    clear hb1
    go_wp2_with fail
    refine Calls.mono (DC.out _ (HL.out.below HB1.out)) ?_
    rintro e w2 ⟨rfl, hb2⟩
    have HB2 : Hid (Below w.heap.size w w2) := HB1.out.trans (hb2.mono HB1.out.size)
    clear hb2
    go_wp2_with fail
    refine Calls.mono (DA.out _ (HL.out.below HB2.out)) ?_
    rintro e w3 ⟨g, rfl, hb3, _, hF⟩
    have HB3 : Hid (Below w.heap.size w w3) := HB2.out.trans (hb3.mono HB2.out.size)
    have HF : Hid (FrsAt w3 (some ⟨g, 0, none⟩) A) := hF
    have l2 := LAST.out g w3 hF
    replace x2 := keepC x2 HB3.out
    clear hb3 hF DA
    have SU := slice_uptoF g n n (by omega)
    have hwn : IntKind.i64.wrap ((n : Int) + 1) = (n : Int) + 1 := by
      rw [IntKind.wrap_i64]
      omega
    have hix : (n : Int) < (n : Int) + 1 := by omega
    go_wp2_with fail
    go_region_held3 (fun w'' => w''.cell? ⟨g, n * 5 + 2, none⟩ = some (.int .i64 (bits .and .i64 m pm)) ∧ w''.cell? ⟨b, ao + q * 5 + 2, none⟩ = some (.int .i64 pm)) (go_keep) (first | (go_at_call 14; refine Calls.mono (DCA.out g _ (HF.out.below (Below.refl w3.heap.size w3).drew)) ?_; rintro e w4 ⟨rfl, hb4⟩; have HB4 : Hid (Below w3.heap.size w3 w4) := (Below.refl w3.heap.size w3).drew.trans hb4; have l2' := keepC l2 HB4.out; have x2' := keepC x2 HB4.out; clear hb4) | (go_at_call 19; refine Calls.mono (DQ.out g _ ?f1 ?f2) ?_; (case f1 => first | exact HF.out.below HB4.out | exact HF.out.below HB4.out.drew); (case f2 => first | exact HL.out.below (HB3.out.trans (HB4.out.mono HB3.out.size)) | exact HL.out.below (HB3.out.trans (HB4.out.drew.mono HB3.out.size))); rintro e w5 ⟨rfl, hb5⟩; have HB5 : Hid (Below w3.heap.size w3 w5) := HB4.out.trans (hb5.mono HB4.out.size); have l2'' := keepC l2 HB5.out; have x2'' := keepC x2 HB5.out; clear hb5))
    all_goals
      have HA : Hid (Below w.heap.size w w5) := HB3.out.trans (HB5.out.mono HB3.out.size)
      go_wp2_with fail
      go_loopg [94] n (fun g s94 wr => ∃ i : Nat, i ≤ n ∧ n - i ≤ g ∧ s94 = .int .i64 i ∧ Hid (Below w.heap.size w wr))
      case atStart => exact ⟨0, by omega, by omega, rfl, (by first | exact HA | exact HA.out.drew)⟩
      case round =>
        obtain ⟨i, hi, hgi, rfl, HBr⟩ := hrel
        clear HA
        by_cases hlt : i < n
        · have hlt2 : (i : Int) < (n : Int) := by omega
          obtain ⟨ib, io, ei, e0, e1, e2, e3, e4⟩ := (HL.out.below HBr.out) i (by rw [HN.out]; exact hlt)
          have q0 := World.block_lt_of_cell? _ _ e0
          have WMi : Hid (∀ j : Nat, j < n → inF L j i = true → bits .andNot .i64 (fr L j).m (fr L i).m = 0) := fun j hj h => WM.out i j hlt hj h
          generalize fr L i = x at *
          obtain ⟨xp, xo, xm, xt, xg⟩ := x
          dsimp only at e0 e1 e2 e3 e4 WMi
          obtain ⟨V, hV⟩ : ∃ V, V = wr := ⟨_, rfl⟩
          subst hV
          have HA2 : Hid (∀ o1, Below w.heap.size w (V.alloc o1)) := fun o1 => HBr.out.trans ((one_belowS V o1).mono HBr.out.size)
          cases ei
          go_wp2_with fail
          go_loopg [101] n (fun g s101 wr => ∃ j : Nat, j ≤ n ∧ n - j ≤ g ∧ s101 = .int .i64 j ∧ Hid (Below w.heap.size w wr) ∧ wr.cell? ⟨V.heap.size, 2, none⟩ = some (.int .i64 xm) ∧ V.heap.size < wr.heap.size)
          case atStart => exact ⟨0, by omega, by omega, rfl, HA2.out _, by go_simp, by simp⟩
          case round =>
            obtain ⟨j, hj, hgj, rfl, HBj, hbox, hbl⟩ := hrel
            clear HA2
            by_cases hltj : j < n
            · have hltj2 : (j : Int) < (n : Int) := by omega
              obtain ⟨jb, jo, ej, f0, f1, f2, f3, f4⟩ := (HL.out.below HBj.out) j (by rw [HN.out]; exact hltj)
              cases ej
              have q1 := World.block_lt_of_cell? _ _ f0
              have wmj := WMi.out j hltj
              have DJ : Hid (∀ W, FrsAt W _ L → _) := fun W hW => DW.out j i W hW
              have HA3 : Hid (∀ o1, Below w.heap.size w (wr.alloc o1)) := fun o1 => HBj.out.trans ((one_belowS wr o1).mono HBj.out.size)
              generalize fr L j = y at *
              obtain ⟨yp, yo, ym, yt, yg⟩ := y
              dsimp only at f0 f1 f2 f3 f4 wmj
              cases hin : inF L (j : Int) (i : Int) with
              | true =>
                have hz := wmj hin
                rw [hin] at DJ
                clear wmj hin
                have HZ : Hid _ := hz
                have hz2 : decide (bits .andNot .i64 ym xm = 0) = true := decide_eq_true hz
                go_wp2_with fail
                refine Calls.mono (DJ.out _ (HL.out.below (HA3.out _))) ?_
                rintro e w7 ⟨rfl, hw7⟩
                have hw8 := hw7.symm
                clear hw7
                subst hw8
                go_wp2_with fail
                go_roundg (n - (j + 1))
                case measure => omega
                case rel => exact ⟨j + 1, by omega, by omega, by go_num, HA3.out _, by go_simp, by simp; omega⟩
              | false =>
                rw [hin] at DJ
                clear wmj hin
                go_wp2_with fail
                refine Calls.mono (DJ.out _ (HL.out.below (HA3.out _))) ?_
                rintro e w7 ⟨rfl, hw7⟩
                have hw8 := hw7.symm
                clear hw7
                subst hw8
                go_wp2_with fail
                go_roundg (n - (j + 1))
                case measure => omega
                case rel => exact ⟨j + 1, by omega, by omega, by go_num, HA3.out _, by go_simp, by simp; omega⟩
            · have hje : j = n := by omega
              subst hje
              go_wp2_with fail
              go_roundg (j - (i + 1))
              case measure => omega
              case rel => exact ⟨i + 1, by omega, by omega, by go_num, HBj⟩
        · have hie : i = n := by omega
          subst hie
          go_wp2_with fail
          refine Calls.mono (DD.out _ (HL.out.below HBr.out)) ?_
          rintro e w5 ⟨va, vc, rfl, hb5, hF, _⟩
          have HB5 : Hid (Below w.heap.size w w5) := HBr.out.trans (hb5.mono HBr.out.size)
          have HFD : Hid (FrsAt w5 va (resD L (q : Int))) := hF
          clear hb5 hF
          by_cases hh : heldE L (q : Int) = 0
          · have hres : resD L (q : Int) = disF L (q : Int) := if_pos hh
            rw [hres] at HFD
            rw [hres, dis_len, HN.out, hh]
            have DDCk : Hid _ := fun va vc W hW => DDC.out va vc W hh hW
            have DDLk : Hid _ := fun va vc W hW => DDL.out va vc W hh hW
            have DLN : Hid ((disF L (q : Int)).length = i) := (dis_len L _).trans HN.out
            clear hres hh DDC DDL DD
            go_wp2_with fail
            go_loopg [130] i (fun g s130 wr => ∃ j : Nat, j ≤ i ∧ i - j ≤ g ∧ s130 = .int .i64 j ∧ Hid (Below w5.heap.size w5 wr))
            case atStart => exact ⟨0, by omega, by omega, rfl, Below.refl _ _⟩
            case round =>
              obtain ⟨j, hj, hgj, rfl, HBj⟩ := hrel
              have HBW : Hid (Below w.heap.size w wr) := HB5.out.trans (HBj.out.mono HB5.out.size)
              by_cases hltj : j < i
              · have hltj2 : (j : Int) < (i : Int) := by omega
                obtain ⟨jb, jo, ej, f0, f1, f2, f3, f4⟩ := (HL.out.below HBW.out) j (by rw [HN.out]; exact hltj)
                obtain ⟨db, dof, ed, d0, d1, d2, d3, d4⟩ := (HFD.out.below HBj.out) j (by rw [DLN.out]; exact hltj)
                rw [DAT.out j hltj] at d0 d1 d2 d3 d4
                subst ed
                have q1 := World.block_lt_of_cell? _ _ f0
                have q2 := World.block_lt_of_cell? _ _ d0
                have DJ : Hid (∀ W, FrsAt W _ L → _) := fun W hW => DWk.out j W hW
                have HA3 : Hid (∀ o1, Below w5.heap.size w5 (wr.alloc o1)) := fun o1 => HBj.out.trans ((one_belowS wr o1).mono HBj.out.size)
                have HA4 : Hid (∀ o1 q, FrsAt ((wr.alloc o1).drewN q) _ L) := fun o1 q => HL.out.below (belowN (HBW.out.trans ((one_belowS wr o1).mono HBW.out.size)) q)
                cases ej
                generalize fr L j = y at *
                obtain ⟨yp, yo, ym, yt, yg⟩ := y
                dsimp only at f0 f1 f2 f3 f4 d0 d1 d2 d3 d4
                cases hin : inF L (j : Int) (q : Int) with
                | true =>
                  rw [hin] at DJ
                  rw [hin, Bool.or_true] at d4
                  clear hin
                  cases yg
                  all_goals
                    go_wp2_with fail
                    go_big_quiet (first | (go_at_call 17; exact Calls.quiet_of_same (DJ.out _ (HA4.out _ _))))
                    go_wp2_with fail
                    go_roundg (i - (j + 1))
                    case measure => omega
                    case rel => exact ⟨j + 1, by omega, by omega, by go_num, belowN (HA3.out _) _⟩
                | false =>
                  rw [hin] at DJ
                  rw [hin, Bool.or_false] at d4
                  clear hin
                  cases yg
                  all_goals
                    go_wp2_with fail
                    go_big_quiet (first | (go_at_call 17; exact Calls.quiet_of_same (DJ.out _ (HA4.out _ _))))
                    go_wp2_with fail
                    go_roundg (i - (j + 1))
                    case measure => omega
                    case rel => exact ⟨j + 1, by omega, by omega, by go_num, belowN (HA3.out _) _⟩
              · have hje : j = i := by omega
                subst hje
                go_wp2_with fail
                refine Calls.mono (DDLk.out va vc _ (HFD.out.below HBj.out)) ?_
                rintro e w8 ⟨rfl, hb8⟩
                have HB8 : Hid (Below w5.heap.size w5 w8) := HBj.out.trans (hb8.mono HBj.out.size)
                clear hb8
                go_wp2_with fail
                refine Calls.mono (DDCk.out va vc _ (HFD.out.below HB8.out)) ?_
                rintro e w9 ⟨rfl, hb9⟩
                have HB9 : Hid (Below w.heap.size w w9) := HB5.out.trans ((HB8.out.trans (hb9.mono HB8.out.size)).mono HB5.out.size)
                clear hb9
                go_wp2_with fail
                go_ret
                exact ⟨rfl, HB9.out⟩
          · have e2 : decide (heldE L (q : Int) = 0) = false := decide_eq_false hh
            clear DDC DDL DD HFD
            generalize heldE L (q : Int) = E at *
            generalize (resD L (q : Int)).length = rl at *
            go_wp2_with fail
            go_ret
            exact ⟨rfl, HB5.out⟩
  · have DA : Hid (∀ W, FrsAt W a L → _) := fun W hW => attach_any a c L k o m W (by omega) hW
    have e1 : decide (attE L k o m = 0) = false := decide_eq_false hA
    have e3 : (attE L k o m == 0) = false := beq_eq_false_iff_ne.2 hA
    clear hL R hE
    generalize attE L k o m = E0 at *
    generalize resA L k o m = A at *
    obtain ⟨n, hn⟩ : ∃ n, L.length = n := ⟨_, rfl⟩
    have HN : Hid (L.length = n) := hn
    rw [hn] at hN DC DW WM DWk DD DDC DDL DAT DA ⊢
    clear hn
    go_enter Try.func4, Try.ntmps4
    go_wp2_with fail
    refine Calls.mono (DF.out _) ?_
    rintro e w1 ⟨rfl, hb1⟩
    have HB1 : Hid (Below w.heap.size w w1) := hb1
    clear hb1
    go_wp2_with fail
    refine Calls.mono (DC.out _ (HL.out.below HB1.out)) ?_
    rintro e w2 ⟨rfl, hb2⟩
    have HB2 : Hid (Below w.heap.size w w2) := HB1.out.trans (hb2.mono HB1.out.size)
    clear hb2
    go_wp2_with fail
    refine Calls.mono (DA.out _ (HL.out.below HB2.out)) ?_
    rintro e w3 ⟨va0, vc0, rfl, hb3, _, _⟩
    have HA : Hid (Below w.heap.size w w3) := HB2.out.trans (hb3.mono HB2.out.size)
    clear hb3 DA
    generalize A.length = al at *
    go_wp2_with fail
    go_loopg [94] n (fun g s94 wr => ∃ i : Nat, i ≤ n ∧ n - i ≤ g ∧ s94 = .int .i64 i ∧ Hid (Below w.heap.size w wr))
    case atStart => exact ⟨0, by omega, by omega, rfl, (by first | exact HA | exact HA.out.drew)⟩
    case round =>
      obtain ⟨i, hi, hgi, rfl, HBr⟩ := hrel
      clear HA
      by_cases hlt : i < n
      · have hlt2 : (i : Int) < (n : Int) := by omega
        obtain ⟨ib, io, ei, e0, e1, e2, e3, e4⟩ := (HL.out.below HBr.out) i (by rw [HN.out]; exact hlt)
        have q0 := World.block_lt_of_cell? _ _ e0
        have WMi : Hid (∀ j : Nat, j < n → inF L j i = true → bits .andNot .i64 (fr L j).m (fr L i).m = 0) := fun j hj h => WM.out i j hlt hj h
        generalize fr L i = x at *
        obtain ⟨xp, xo, xm, xt, xg⟩ := x
        dsimp only at e0 e1 e2 e3 e4 WMi
        obtain ⟨V, hV⟩ : ∃ V, V = wr := ⟨_, rfl⟩
        subst hV
        have HA2 : Hid (∀ o1, Below w.heap.size w (V.alloc o1)) := fun o1 => HBr.out.trans ((one_belowS V o1).mono HBr.out.size)
        cases ei
        go_wp2_with fail
        go_loopg [101] n (fun g s101 wr => ∃ j : Nat, j ≤ n ∧ n - j ≤ g ∧ s101 = .int .i64 j ∧ Hid (Below w.heap.size w wr) ∧ wr.cell? ⟨V.heap.size, 2, none⟩ = some (.int .i64 xm) ∧ V.heap.size < wr.heap.size)
        case atStart => exact ⟨0, by omega, by omega, rfl, HA2.out _, by go_simp, by simp⟩
        case round =>
          obtain ⟨j, hj, hgj, rfl, HBj, hbox, hbl⟩ := hrel
          clear HA2
          by_cases hltj : j < n
          · have hltj2 : (j : Int) < (n : Int) := by omega
            obtain ⟨jb, jo, ej, f0, f1, f2, f3, f4⟩ := (HL.out.below HBj.out) j (by rw [HN.out]; exact hltj)
            cases ej
            have q1 := World.block_lt_of_cell? _ _ f0
            have wmj := WMi.out j hltj
            have DJ : Hid (∀ W, FrsAt W _ L → _) := fun W hW => DW.out j i W hW
            have HA3 : Hid (∀ o1, Below w.heap.size w (wr.alloc o1)) := fun o1 => HBj.out.trans ((one_belowS wr o1).mono HBj.out.size)
            generalize fr L j = y at *
            obtain ⟨yp, yo, ym, yt, yg⟩ := y
            dsimp only at f0 f1 f2 f3 f4 wmj
            cases hin : inF L (j : Int) (i : Int) with
            | true =>
              have hz := wmj hin
              rw [hin] at DJ
              clear wmj hin
              have HZ : Hid _ := hz
              have hz2 : decide (bits .andNot .i64 ym xm = 0) = true := decide_eq_true hz
              go_wp2_with fail
              refine Calls.mono (DJ.out _ (HL.out.below (HA3.out _))) ?_
              rintro e w7 ⟨rfl, hw7⟩
              have hw8 := hw7.symm
              clear hw7
              subst hw8
              go_wp2_with fail
              go_roundg (n - (j + 1))
              case measure => omega
              case rel => exact ⟨j + 1, by omega, by omega, by go_num, HA3.out _, by go_simp, by simp; omega⟩
            | false =>
              rw [hin] at DJ
              clear wmj hin
              go_wp2_with fail
              refine Calls.mono (DJ.out _ (HL.out.below (HA3.out _))) ?_
              rintro e w7 ⟨rfl, hw7⟩
              have hw8 := hw7.symm
              clear hw7
              subst hw8
              go_wp2_with fail
              go_roundg (n - (j + 1))
              case measure => omega
              case rel => exact ⟨j + 1, by omega, by omega, by go_num, HA3.out _, by go_simp, by simp; omega⟩
          · have hje : j = n := by omega
            subst hje
            go_wp2_with fail
            go_roundg (j - (i + 1))
            case measure => omega
            case rel => exact ⟨i + 1, by omega, by omega, by go_num, HBj⟩
      · have hie : i = n := by omega
        subst hie
        go_wp2_with fail
        refine Calls.mono (DD.out _ (HL.out.below HBr.out)) ?_
        rintro e w5 ⟨va, vc, rfl, hb5, hF, _⟩
        have HB5 : Hid (Below w.heap.size w w5) := HBr.out.trans (hb5.mono HBr.out.size)
        have HFD : Hid (FrsAt w5 va (resD L k)) := hF
        clear hb5 hF
        by_cases hh : heldE L k = 0
        · have hres : resD L k = disF L k := if_pos hh
          rw [hres] at HFD
          rw [hres, dis_len, HN.out, hh]
          have DDCk : Hid _ := fun va vc W hW => DDC.out va vc W hh hW
          have DDLk : Hid _ := fun va vc W hW => DDL.out va vc W hh hW
          have DLN : Hid ((disF L k).length = i) := (dis_len L _).trans HN.out
          clear hres hh DDC DDL DD
          go_wp2_with fail
          go_loopg [130] i (fun g s130 wr => ∃ j : Nat, j ≤ i ∧ i - j ≤ g ∧ s130 = .int .i64 j ∧ Hid (Below w5.heap.size w5 wr))
          case atStart => exact ⟨0, by omega, by omega, rfl, Below.refl _ _⟩
          case round =>
            obtain ⟨j, hj, hgj, rfl, HBj⟩ := hrel
            have HBW : Hid (Below w.heap.size w wr) := HB5.out.trans (HBj.out.mono HB5.out.size)
            by_cases hltj : j < i
            · have hltj2 : (j : Int) < (i : Int) := by omega
              obtain ⟨jb, jo, ej, f0, f1, f2, f3, f4⟩ := (HL.out.below HBW.out) j (by rw [HN.out]; exact hltj)
              obtain ⟨db, dof, ed, d0, d1, d2, d3, d4⟩ := (HFD.out.below HBj.out) j (by rw [DLN.out]; exact hltj)
              rw [DAT.out j hltj] at d0 d1 d2 d3 d4
              subst ed
              have q1 := World.block_lt_of_cell? _ _ f0
              have q2 := World.block_lt_of_cell? _ _ d0
              have DJ : Hid (∀ W, FrsAt W _ L → _) := fun W hW => DWk.out j W hW
              have HA3 : Hid (∀ o1, Below w5.heap.size w5 (wr.alloc o1)) := fun o1 => HBj.out.trans ((one_belowS wr o1).mono HBj.out.size)
              have HA4 : Hid (∀ o1 q, FrsAt ((wr.alloc o1).drewN q) _ L) := fun o1 q => HL.out.below (belowN (HBW.out.trans ((one_belowS wr o1).mono HBW.out.size)) q)
              cases ej
              generalize fr L j = y at *
              obtain ⟨yp, yo, ym, yt, yg⟩ := y
              dsimp only at f0 f1 f2 f3 f4 d0 d1 d2 d3 d4
              cases hin : inF L (j : Int) k with
              | true =>
                rw [hin] at DJ
                rw [hin, Bool.or_true] at d4
                clear hin
                cases yg
                all_goals
                  go_wp2_with fail
                  go_big_quiet (first | (go_at_call 17; exact Calls.quiet_of_same (DJ.out _ (HA4.out _ _))))
                  go_wp2_with fail
                  go_roundg (i - (j + 1))
                  case measure => omega
                  case rel => exact ⟨j + 1, by omega, by omega, by go_num, belowN (HA3.out _) _⟩
              | false =>
                rw [hin] at DJ
                rw [hin, Bool.or_false] at d4
                clear hin
                cases yg
                all_goals
                  go_wp2_with fail
                  go_big_quiet (first | (go_at_call 17; exact Calls.quiet_of_same (DJ.out _ (HA4.out _ _))))
                  go_wp2_with fail
                  go_roundg (i - (j + 1))
                  case measure => omega
                  case rel => exact ⟨j + 1, by omega, by omega, by go_num, belowN (HA3.out _) _⟩
            · have hje : j = i := by omega
              subst hje
              go_wp2_with fail
              refine Calls.mono (DDLk.out va vc _ (HFD.out.below HBj.out)) ?_
              rintro e w8 ⟨rfl, hb8⟩
              have HB8 : Hid (Below w5.heap.size w5 w8) := HBj.out.trans (hb8.mono HBj.out.size)
              clear hb8
              go_wp2_with fail
              refine Calls.mono (DDCk.out va vc _ (HFD.out.below HB8.out)) ?_
              rintro e w9 ⟨rfl, hb9⟩
              have HB9 : Hid (Below w.heap.size w w9) := HB5.out.trans ((HB8.out.trans (hb9.mono HB8.out.size)).mono HB5.out.size)
              clear hb9
              go_wp2_with fail
              go_ret
              exact ⟨rfl, HB9.out⟩
        · have e2 : decide (heldE L k = 0) = false := decide_eq_false hh
          clear DDC DDL DD HFD
          generalize heldE L k = E at *
          generalize (resD L k).length = rl at *
          go_wp2_with fail
          go_ret
          exact ⟨rfl, HB5.out⟩

theorem frameMay_any (a : Option Addr) (c : Nat) (L : List Fr) (k o m : Int) (w : World) (hN : L.length ≤ 9223372036854775807) (hL : FrsAt w a L) :
    Calls Try.prog 4 #[.slice a L.length c, .int .i64 k, .int .i64 o, .int .i64 m] w fun e w' => e = .returned (.bool true) ∧ Below w.heap.size w w' := by
  by_cases hE : fcheckE L = 0
  · exact frameMay_ok a c L k o m w hL (fcheck_zero.1 hE)
  · exact frameMay_err a c L k o m w hN hL hE
end Go.Proofs.Ytfnfcldkadfpmaa
