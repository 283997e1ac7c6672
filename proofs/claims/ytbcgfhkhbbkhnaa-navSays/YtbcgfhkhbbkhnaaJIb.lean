/-
  The reference's Gone.
-/
import Derived.Test.YtbcgfhkhbbkhnaaJIa
import Derived.Test.YtbcgfhkhbbkhnaaJFk
namespace Go.Proofs.Ytbcgfhkhbbkhnaa
open Go.RowKit
set_option linter.unusedVariables false

set_option maxRecDepth 100000 in
set_option maxHeartbeats 2000000 in
theorem rgone_err (a : Option Addr) (c : Nat) (L : List Fr) (k o : Int) (w : World) (hN : L.length ≤ 9223372036854775807) (hL : FrsAt w a L) (hE : goE L k o ≠ 0) :
    Calls Try.prog 6 #[.slice a L.length c, .int .i64 k, .int .i64 o] w fun e w' => e = .returned (.tuple #[.slice none 0 0, .int .i64 (goE L k o)]) ∧ Below w.heap.size w w' := by
  have D : Hid (∀ kb W, FrsAt W a L → W.cell? ⟨kb, 0, none⟩ = some (.int .i64 k) → _) := fun kb W h1 h2 => rframed_one a c kb L k W hN h1 h2
  have HL : Hid (FrsAt w a L) := hL
  by_cases h1 : heldE L k = 0
  · by_cases h2 : 0 ≤ o ∧ o ≤ 9
    · by_cases h3 : 1000 ≤ (fr L k.toNat).t
      · have e : goE L k o = 1 := by unfold goE; rw [if_neg (not_not_intro h1), if_neg (not_not_intro h2), if_pos h3]
        rw [e]
        obtain ⟨R, q, rfl, hq, _⟩ := held_zero h1
        rw [h1] at D
        have DI : Hid (∀ W, _) := fun W => rinF_any o 0 9 W
        rw [decide_eq_true h2] at DI
        rw [Int.toNat_natCast] at h3
        have hq2 : (q : Int) < (L.length : Int) := by omega
        clear e hE h1 h2
        go_enter Try.func6, Try.ntmps6
        go_wp2_with fail
        refine Calls.mono (D.out _ _ (HL.out.below (one_belowS _ _)) (by go_simp)) ?_
        rintro e w1 ⟨rfl, hb1⟩
        have HB1 : Hid (Below w.heap.size w w1) := (one_belowS w _).trans (hb1.mono (by simp))
        clear hb1 D
        go_wp2_with fail
        refine Calls.mono (DI.out _) ?_
        rintro e w2 ⟨rfl, hw2⟩
        have hw3 := hw2.symm
        clear hw2
        subst hw3
        obtain ⟨b, oo, ea, c0, c1, c2, c3, c4⟩ := (HL.out.below HB1.out) q hq
        subst ea
        generalize fr L q = x at *
        obtain ⟨xp, xo, xm, xt, xg⟩ := x
        dsimp only at c0 c1 c2 c3 c4 h3
        have h3a : decide ((1000 : Int) ≤ xt) = true := decide_eq_true h3
        generalize L.length = n at *
        go_wp2_with fail
        exact bodyPost_ret (v := .tuple #[.slice none 0 0, .int .i64 1]) (by simp [results, Try.results6, go_sem]) rfl ⟨rfl, HB1.out⟩
      · exact absurd (by unfold goE; rw [if_neg (not_not_intro h1), if_neg (not_not_intro h2), if_neg h3]) hE
    · have e : goE L k o = 2 := by unfold goE; rw [if_neg (not_not_intro h1), if_pos h2]
      rw [e]
      rw [h1] at D
      have DI : Hid (∀ W, _) := fun W => rinF_any o 0 9 W
      rw [decide_eq_false h2] at DI
      clear e hE h1 h2
      generalize L.length = n at *
      go_enter Try.func6, Try.ntmps6
      go_wp2_with fail
      refine Calls.mono (D.out _ _ (HL.out.below (one_belowS _ _)) (by go_simp)) ?_
      rintro e w1 ⟨rfl, hb1⟩
      have HB1 : Hid (Below w.heap.size w w1) := (one_belowS w _).trans (hb1.mono (by simp))
      clear hb1 D
      go_wp2_with fail
      refine Calls.mono (DI.out _) ?_
      rintro e w2 ⟨rfl, hw2⟩
      have hw3 := hw2.symm
      clear hw2
      subst hw3
      go_wp2_with fail
      exact bodyPost_ret (v := .tuple #[.slice none 0 0, .int .i64 2]) (by simp [results, Try.results6, go_sem]) rfl ⟨rfl, HB1.out⟩
  · have e : goE L k o = heldE L k := by unfold goE; rw [if_pos h1]
    rw [e]
    clear e hE
    have e2 : decide (heldE L k = 0) = false := decide_eq_false h1
    have e3 : (heldE L k == 0) = false := by simp [h1]
    generalize heldE L k = E at *
    generalize L.length = n at *
    go_enter Try.func6, Try.ntmps6
    go_wp2_with fail
    refine Calls.mono (D.out _ _ (HL.out.below (one_belowS _ _)) (by go_simp)) ?_
    rintro e w1 ⟨rfl, hb1⟩
    have HB1 : Hid (Below w.heap.size w w1) := (one_belowS w _).trans (hb1.mono (by simp))
    clear hb1 D
    go_wp2_with fail
    exact bodyPost_ret (v := .tuple #[.slice none 0 0, .int .i64 E]) (by simp [results, Try.results6, go_sem]) rfl ⟨rfl, HB1.out⟩

theorem go_take {L : List Fr} {k o : Int} {i : Nat} (h : i < L.length) : fcells ((goF L k o).take (i + 1)) = fcells ((goF L k o).take i) ++ cells5 (goX L k o i) := by
  have h2 : i < (goF L k o).length := by rw [go_len]; exact h
  rw [List.take_succ_eq_append_getElem h2, fcells_snoc, ← fr_elem h2, go_at h]

set_option maxRecDepth 100000 in
set_option maxHeartbeats 4000000 in
theorem rgone_ok (a : Option Addr) (c : Nat) (L : List Fr) (k o : Int) (w : World) (hL : FrsAt w a L) (hE : goE L k o = 0) :
    Calls Try.prog 6 #[.slice a L.length c, .int .i64 k, .int .i64 o] w fun e w' => ∃ va vc, e = .returned (.tuple #[.slice va (goF L k o).length vc, .int .i64 0]) ∧ Below w.heap.size w w' ∧ FrsAt w' va (goF L k o) := by
  obtain ⟨h1, h2, h3⟩ := go_zero hE
  obtain ⟨R, q, rfl, hq, hgq⟩ := held_zero h1
  clear hgq
  have hN := R.few
  have D : Hid (∀ kb W, FrsAt W a L → W.cell? ⟨kb, 0, none⟩ = some (.int .i64 (q : Int)) → _) := fun kb W h1 h2 => rframed_one a c kb L (q : Int) W (by omega) h1 h2
  rw [h1] at D
  have HL : Hid (FrsAt w a L) := hL
  have DI : Hid (∀ W, _) := fun W => rinF_any o 0 9 W
  rw [decide_eq_true h2] at DI
  rw [Int.toNat_natCast] at h3
  have DW : Hid (∀ (i : Nat) W, FrsAt W a L → _) := fun i W h1 => rwithin_any a c L (i : Int) (q : Int) W R h1
  obtain ⟨i0, hi0, hz0, hz1, hz2⟩ := info_parts infoFrame
  have TK : Hid (∀ i, i < L.length → fcells ((goF L q o).take (i + 1)) = fcells ((goF L q o).take i) ++ cells5 (goX L q o i)) := fun i hi => go_take hi
  have XS : Hid (goX L q o q = { fr L q with o := o, t := (fr L q).t + 1 }) := (if_pos rfl : goX L q o q = _)
  have XO : Hid (∀ i : Nat, i ≠ q → goX L q o i = { fr L i with g := (fr L i).g || inF L i q }) := fun i hne => if_neg (by omega)
  have FIN : Hid (∀ v W, W.ownsRow w.heap.size 29 5 v L.length (fcells ((goF L q o).take L.length)) → ∃ va vc, v = .slice va (goF L q o).length vc ∧ FrsAt W va (goF L q o)) := fun v W h => by
    rw [← go_len L q o, List.take_length] at h
    exact frs_own h
  have TR : Hid (∀ i, i < L.length → 0 ≤ (fr L i).t ∧ (fr L i).t ≤ 1000) := fun i hi => (frE_zero.1 (R.ok i hi)).2.1.2.2
  have hq2 : (q : Int) < (L.length : Int) := by omega
  clear hL hE R h1 h2
  generalize goF L q o = DF at *
  obtain ⟨n, hn⟩ : ∃ n, L.length = n := ⟨_, rfl⟩
  have HN : Hid (L.length = n) := hn
  rw [hn] at hN hq hq2 D DW TK FIN TR ⊢
  clear hn
  have H3 : Hid ((fr L q).t < 1000) := h3
  clear h3
  go_enter Try.func6, Try.ntmps6
  go_wp2_with fail
  refine Calls.mono (D.out _ _ (HL.out.below (one_belowS _ _)) (by go_simp)) ?_
  rintro e w1 ⟨rfl, hb1⟩
  have HB1 : Hid (Below w.heap.size w w1) := (one_belowS w _).trans (hb1.mono (by simp))
  clear hb1 D
  go_wp2_with fail
  refine Calls.mono (DI.out _) ?_
  rintro e w2 ⟨rfl, hw2⟩
  have hw3 := hw2.symm
  clear hw2
  subst hw3
  obtain ⟨b, oo, ea, _, _, _, c3, _⟩ := (HL.out.below HB1.out) q (by rw [HN.out]; exact hq)
  have h3a : decide ((1000 : Int) ≤ (fr L q).t) = false := decide_eq_false (by have := H3.out; omega)
  obtain ⟨xt0, hxt0⟩ : ∃ z, (fr L q).t = z := ⟨_, rfl⟩
  rw [hxt0] at c3 h3a
  clear hxt0
  have HEA : Hid (a = some ⟨b, oo, none⟩) := ea
  rw [ea]
  clear ea
  have OW0 : Hid (w1.ownsRow w.heap.size 29 5 (.slice none 0 0) 0 (fcells (DF.take 0))) := World.ownsRow_nil _ _ _ _
  go_wp2_with fail
  clear c3 h3a
  go_loopg [9, 38] n (fun g s9 s38 wr => ∃ (i : Nat) (v : Value), i ≤ n ∧ n - i ≤ g ∧ s38 = .int .i64 i ∧ s9 = v ∧ Hid (Below w.heap.size w wr) ∧ Hid (wr.ownsRow w.heap.size 29 5 v i (fcells (DF.take i))))
  case atStart => exact ⟨0, _, by omega, by omega, rfl, rfl, HB1, OW0⟩
  case round =>
    obtain ⟨i, v, hi, hg, rfl, rfl, HBr, OW⟩ := hrel
    clear HB1 OW0
    obtain ⟨va, vc, rfl⟩ := row_slice OW.out
    by_cases hlt : i < n
    · have hlt2 : (i : Int) < (n : Int) := by omega
      obtain ⟨b', oo', ea', c0, c1, c2, c3, c4⟩ := (HL.out.below HBr.out) i (by rw [HN.out]; exact hlt)
      rw [HEA.out] at ea'
      cases ea'
      have HBA : Hid (∀ o1, Below w.heap.size w (wr.alloc o1)) := fun o1 => HBr.out.trans ((one_belowS wr o1).mono HBr.out.size)
      have dwi := fun W hW => DW.out i W hW
      rw [HEA.out] at dwi
      have DWi : Hid (∀ W, FrsAt W (some ⟨b, oo, none⟩) L → _) := dwi
      have HLb : Hid (FrsAt w (some ⟨b, oo, none⟩) L) := by have h := HL.out; rwa [HEA.out] at h
      have tki := TK.out i hlt
      have tri := TR.out i hlt
      have q0 := World.block_lt_of_cell? _ _ c0
      have hsz := HBr.out.size
      have OM : Hid (∀ (o1 o2 : Obj), ((wr.alloc o1).alloc o2).ownsRow w.heap.size 29 5 (.slice va i vc) i (fcells (DF.take i))) := fun o1 o2 => (OW.out.alloc o1).alloc o2
      have HBM : Hid (∀ (o1 o2 : Obj), Below w.heap.size w ((wr.alloc o1).alloc o2)) := fun o1 o2 => HBr.out.trans ((two_belowS wr o1 o2).mono HBr.out.size)
      have hb63 : i + 1 ≤ maxLen := by unfold maxLen; omega
      have hb47 : (i + 1) * 40 ≤ 140737488355328 := by omega
      by_cases hik : i = q
      · subst hik
        rw [XS.out] at tki
        have h3 := H3.out
        generalize fr L i = x at *
        obtain ⟨xp, xo, xm, xt, xg⟩ := x
        dsimp only at c0 c1 c2 c3 c4 tki tri h3
        have hwr : IntKind.i64.wrap (xt + 1) = xt + 1 := by rw [IntKind.wrap_i64]; omega
        have TKi : Hid _ := tki
        clear tki dwi DWi
        go_wp2_with (at_builtin; refine wpList_append_own _ rfl (.tmp 57) (.tmp 59) 22 rfl w.heap.size 29 i0 (.agg #[.int .i64 0, .int .i64 0, .int .i64 0, .int .i64 0, .bool false]) 5 40 Try.underlying22 hi0 hz0 hz1 hz2 rfl (by decide) (.slice va i vc) i (fcells (DF.take i)) ?hsa ?howa ⟨wr.heap.size + 1, 0, none⟩ 1 1 (cells5 ⟨xp, o, xm, xt + 1, xg⟩) ?hxa rfl ?c1a ?c2a hb63 hb47 ?hbasea ?_)
        case howa => exact OM.out _ _
        try case hsa => rfl
        try case hxa => rfl
        case c1a => first | exact fun j u h => h | exact news5 (by go_simp) (by go_simp) (by go_simp) (by go_simp) (by go_simp)
        case c2a => exact cells5_one _
        case hbasea => first | omega | (simp; omega)
        intro v2 w3 own3 grow3 _
        have OW3 : Hid (w3.ownsRow w.heap.size 29 5 v2 (i + 1) (fcells (DF.take (i + 1)))) := by
          have h := TKi.out
          show w3.ownsRow _ _ _ _ _ _
          rw [h]
          exact own3
        have HB3 : Hid (Below w.heap.size w w3) := (HBM.out _ _).grown grow3 (HBM.out _ _).size (fun kk hk => (OW.out.lt kk hk).1)
        obtain ⟨va2, vc2, rfl⟩ := row_slice own3
        clear own3 grow3 OM HBM
        go_wp2_with fail
        go_roundg (n - (i + 1))
        case measure => omega
        case rel => exact ⟨i + 1, _, by omega, by omega, by go_num, rfl, HB3, OW3⟩
      · rw [XO.out i hik] at tki
        have hik2 : decide ((i : Int) = (q : Int)) = false := decide_eq_false (by omega)
        have hik3 : ((i : Int) == (q : Int)) = false := by simp; omega
        have hik4 : decide (i = q) = false := decide_eq_false hik
        generalize fr L i = x at *
        obtain ⟨xp, xo, xm, xt, xg⟩ := x
        dsimp only at c0 c1 c2 c3 c4 tki tri
        obtain ⟨r, hr⟩ : ∃ r, inF L (i : Int) (q : Int) = r := ⟨_, rfl⟩
        rw [hr] at DWi tki
        clear hr dwi
        have TKi : Hid _ := tki
        clear tki
        cases r
        · simp only [Bool.or_false] at TKi
          go_wp2_with fail
          refine Calls.mono (DWi.out _ (HLb.out.below (HBA.out _))) ?_
          rintro e w5 ⟨rfl, hw5⟩
          have hw6 := hw5.symm
          clear hw5
          subst hw6
          go_wp2_with (at_builtin; refine wpList_append_own _ rfl (.tmp 57) (.tmp 59) 22 rfl w.heap.size 29 i0 (.agg #[.int .i64 0, .int .i64 0, .int .i64 0, .int .i64 0, .bool false]) 5 40 Try.underlying22 hi0 hz0 hz1 hz2 rfl (by decide) (.slice va i vc) i (fcells (DF.take i)) ?hsb ?howb ⟨wr.heap.size + 1, 0, none⟩ 1 1 (cells5 ⟨xp, xo, xm, xt, xg⟩) ?hxb rfl ?c1b ?c2b hb63 hb47 ?hbaseb ?_)
          case howb => exact OM.out _ _
          try case hsb => rfl
          try case hxb => rfl
          case c1b => first | exact fun j u h => h | exact news5 (by go_simp) (by go_simp) (by go_simp) (by go_simp) (by go_simp)
          case c2b => exact cells5_one _
          case hbaseb => first | omega | (simp; omega)
          intro v2 w3 own3 grow3 _
          have OW3 : Hid (w3.ownsRow w.heap.size 29 5 v2 (i + 1) (fcells (DF.take (i + 1)))) := by
            have h := TKi.out
            show w3.ownsRow _ _ _ _ _ _
            rw [h]
            exact own3
          have HB3 : Hid (Below w.heap.size w w3) := (HBM.out _ _).grown grow3 (HBM.out _ _).size (fun kk hk => (OW.out.lt kk hk).1)
          obtain ⟨va2, vc2, rfl⟩ := row_slice own3
          clear own3 grow3 OM HBM
          go_wp2_with fail
          go_roundg (n - (i + 1))
          case measure => omega
          case rel => exact ⟨i + 1, _, by omega, by omega, by go_num, rfl, HB3, OW3⟩
        · simp only [Bool.or_true] at TKi
          go_wp2_with fail
          refine Calls.mono (DWi.out _ (HLb.out.below (HBA.out _))) ?_
          rintro e w5 ⟨rfl, hw5⟩
          have hw6 := hw5.symm
          clear hw5
          subst hw6
          go_wp2_with (at_builtin; refine wpList_append_own _ rfl (.tmp 57) (.tmp 59) 22 rfl w.heap.size 29 i0 (.agg #[.int .i64 0, .int .i64 0, .int .i64 0, .int .i64 0, .bool false]) 5 40 Try.underlying22 hi0 hz0 hz1 hz2 rfl (by decide) (.slice va i vc) i (fcells (DF.take i)) ?hsc ?howc ⟨wr.heap.size + 1, 0, none⟩ 1 1 (cells5 ⟨xp, xo, xm, xt, true⟩) ?hxc rfl ?c1c ?c2c hb63 hb47 ?hbasec ?_)
          case howc => exact OM.out _ _
          try case hsc => rfl
          try case hxc => rfl
          case c1c => first | exact fun j u h => h | exact news5 (by go_simp) (by go_simp) (by go_simp) (by go_simp) (by go_simp)
          case c2c => exact cells5_one _
          case hbasec => first | omega | (simp; omega)
          intro v2 w3 own3 grow3 _
          have OW3 : Hid (w3.ownsRow w.heap.size 29 5 v2 (i + 1) (fcells (DF.take (i + 1)))) := by
            have h := TKi.out
            show w3.ownsRow _ _ _ _ _ _
            rw [h]
            exact own3
          have HB3 : Hid (Below w.heap.size w w3) := (HBM.out _ _).grown grow3 (HBM.out _ _).size (fun kk hk => (OW.out.lt kk hk).1)
          obtain ⟨va2, vc2, rfl⟩ := row_slice own3
          clear own3 grow3 OM HBM
          go_wp2_with fail
          go_roundg (n - (i + 1))
          case measure => omega
          case rel => exact ⟨i + 1, _, by omega, by omega, by go_num, rfl, HB3, OW3⟩
    · have hie : i = n := by omega
      subst hie
      obtain ⟨va', vc', e1, hF⟩ := FIN.out _ _ OW.out
      cases e1
      have HF : Hid _ := hF
      clear hF OW
      go_wp2_with fail
      exact bodyPost_ret (v := .tuple #[.slice va DF.length vc, .int .i64 0]) (by simp [results, Try.results6, go_sem]) rfl (by first | exact ⟨va, vc, rfl, HBr.out, HF.out⟩ | exact ⟨va, ⟨vc, rfl⟩, HBr.out, HF.out⟩)

theorem rgone_any (a : Option Addr) (c : Nat) (L : List Fr) (k o : Int) (w : World) (hN : L.length ≤ 9223372036854775807) (hL : FrsAt w a L) :
    Calls Try.prog 6 #[.slice a L.length c, .int .i64 k, .int .i64 o] w fun e w' => ∃ va vc, e = .returned (.tuple #[.slice va (resG L k o).length vc, .int .i64 (goE L k o)]) ∧ Below w.heap.size w w' ∧ FrsAt w' va (resG L k o) := by
  unfold resG
  by_cases hE : goE L k o = 0
  · rw [if_pos hE, hE]
    exact rgone_ok a c L k o w hL hE
  · rw [if_neg hE]
    exact (rgone_err a c L k o w hN hL hE).mono fun e w' ⟨e1, hb⟩ => ⟨none, 0, e1, hb, fun i hi => absurd hi (Nat.not_lt_zero _)⟩
end Go.Proofs.Ytbcgfhkhbbkhnaa
