/-
  Open, Pull at the landed code.
-/
import Derived.Test.YtgjfmepbphfjoaaUPwe
namespace Go.Proofs.Ytgjfmepbphfjoaa
open Go.RowKit Go.ChangeShapes Go.WideShapes
set_option linter.unusedVariables false

theorem alloc_news (W : World) (xs : List Value) (t : Nat) : ∀ j u, xs[j]? = some u → (W.alloc (.cells xs.toArray t)).cell? ((⟨W.heap.size, 0, none⟩ : Addr).add j) = some u := fun j u hj => by
  rw [Addr.add_lit, Nat.zero_add]
  exact alloc_cell W xs.toArray t j (by simpa using hj)
theorem cell_keptQ {w w' : World} {b o : Nat} (h : w'.heap[b]? = w.heap[b]?) : w'.cell? ⟨b, o, none⟩ = w.cell? ⟨b, o, none⟩ := by simp [World.cell?, h]
theorem frozen_keptQ {w w' : World} {b o : Nat} (h : w'.heap[b]? = w.heap[b]?) : w'.frozen? ⟨b, o, none⟩ = w.frozen? ⟨b, o, none⟩ := World.frozen?_of_block (w := w) h
theorem pcell_oneN (x : Pt) : ∀ u ∈ pcell x (.slice none 0 0), u.oneCell' = true := fun u hu => by
  unfold pcell at hu
  simp at hu
  rcases hu with rfl | rfl | rfl | rfl | rfl <;> rfl
theorem pcell_two (x y : Pt) : ∀ u ∈ pcell x (.slice none 0 0) ++ pcell y (.slice none 0 0), u.oneCell' = true := fun u hu => by
  rcases List.mem_append.1 hu with h | h
  · exact pcell_oneN _ u h
  · exact pcell_oneN _ u h

set_option maxRecDepth 100000 in
set_option maxHeartbeats 4000000 in
theorem open_ansX : OpenAnsX := fun X a c L Fr o t w hX hN hB hsl hL => by
  have DC : Hid _ := pcheck_ans a c L Fr w hN hB hsl hL.at
  have DO : Hid (∀ W, _) := fun W => checkOwner_any Fr o t W
  by_cases h1 : pcheckE L Fr = 0
  · rw [h1] at DC
    have R := pcheck_zero.1 h1
    have hN12 := R.few
    have hF := few_right R
    by_cases h2 : passE2 Fr o t = 0
    · rw [h2] at DO
      have eO : openE L Fr o t = if 10 < L.length then 1 else 0 := by
        unfold passE2 at h2
        unfold openE
        rw [if_neg (not_not_intro h1)]
        by_cases e1 : 0 ≤ o ∧ o < Fr
        · rw [if_neg (not_not_intro e1)] at h2 ⊢
          by_cases e2 : 0 ≤ t ∧ t ≤ 1000
          · rw [if_neg (not_not_intro e2)]
          · rw [if_pos e2] at h2; cases h2
        · rw [if_pos e1] at h2; cases h2
      have hwr : IntKind.i64.wrap ((L.length : Int) + 2) = (L.length : Int) + 2 := by rw [IntKind.wrap_i64]; omega
      have hwr1 : IntKind.i64.wrap ((L.length : Int) + 1) = (L.length : Int) + 1 := by rw [IntKind.wrap_i64]; omega
      by_cases h10 : 10 < L.length
      · rw [if_pos h10] at eO
        have er : resO L Fr o t = [] := by unfold resO; rw [eO]; rfl
        have en : openN L Fr o t = 0 := by unfold openN; rw [eO]; rfl
        rw [er, en, eO]
        have hd : decide ((12 : Int) < (L.length : Int) + 2) = true := decide_eq_true (by omega)
        clear hL hB hsl hF R h1 h2 eO er en
        generalize L.length = n at *
        go_enter Try.func5, Try.ntmps5
        go_wp2_with fail
        refine Calls.mono DC.out ?_
        rintro e w1 ⟨rfl, hb⟩
        have HB1 : Hid (Below w.heap.size w w1) := hb
        clear hb DC
        go_wp2_with fail
        refine Calls.mono (DO.out _) ?_
        rintro e w9 ⟨rfl, hw9⟩
        have hw10 := hw9.symm
        clear hw9
        subst hw10
        go_wp2_with fail
        exact bodyPost_ret (v := .tuple #[.slice none 0 0, .int .i64 0, .int .i64 1]) (by simp [results, Try.results5, go_sem]) rfl ⟨none, 0, rfl, HB1.out, sl_nil, pts_nilS X _⟩
      · rw [if_neg h10] at eO
        have er : resO L Fr o t = openL L o t := by unfold resO; rw [if_pos eO]
        have en : openN L Fr o t = (L.length : Int) := by unfold openN; rw [if_pos eO]
        rw [er, en, eO]
        have hd : decide ((12 : Int) < (L.length : Int) + 2) = false := decide_eq_false (by omega)
        obtain ⟨i0, hi0, hz0, hz1, hz2⟩ := info_parts infoPort
        have DP : Hid (∀ W, Below w.heap.size w W → _) := fun W hW => cports_any a c L W hN12 hF (hL.at.below hW)
        have FIN : Hid (∀ (B : Nat) (W1 w3 : World) (K : Nat → Value) (lo hi : Nat → Nat) (v2 : Value), w.heap.size ≤ B → CpI B L K lo hi L.length W1 → OffX (fun x => x = B) W1 w3 → w3.ownsRow B 47 5 v2 (L.length + 2) (pcells L K ++ (pcell ⟨o, t, (L.length : Int) + 1, [], false⟩ (.slice none 0 0) ++ pcell ⟨o, t, (L.length : Int), [], false⟩ (.slice none 0 0))) → ∃ va vc, v2 = .slice va (L.length + 2) vc ∧ SlA va (L.length + 2) vc ∧ PtsSt X w3 va (openL L o t)) := fun B W1 w3 K lo hi v2 hBw h ho hrow => by
          rw [← List.append_assoc, pcells_snoc, pcells_snoc] at hrow
          have el : (openL L o t).length = L.length + 2 := by unfold openL; simp
          have eo : L ++ [(⟨o, t, (L.length : Int) + 1, [], false⟩ : Pt)] ++ [⟨o, t, (L.length : Int), [], false⟩] = openL L o t := by unfold openL; simp
          rw [eo] at hrow
          rw [← el] at hrow ⊢
          obtain ⟨va, vc, e, hs, hp⟩ := pts_fin hBw hrow (fun i hi' => by
            rw [el] at hi'
            by_cases e : i < L.length
            · have e1 : pt (openL L o t) i = pt L i := by unfold openL; exact pt_left e
              rw [e1, List.length_append, List.length_singleton, if_neg (by omega), if_neg (by omega)]
              exact h.grs hBw hF ho e (fun b hb => Or.inl (by have : b = B := hb; have := (h.at' i e).1; omega))
            · have hc : (pt (openL L o t) i).cm = [] := by
                rw [pt_elem (by rw [el]; exact hi')]
                unfold openL
                rw [List.getElem_append_right (by omega)]
                have : i - L.length = 0 ∨ i - L.length = 1 := by omega
                rcases this with h0 | h0
                · simp [h0]
                · simp [h0]
              rw [hc]
              have hk : (if i = (L ++ [(⟨o, t, (L.length : Int) + 1, [], false⟩ : Pt)]).length then Value.slice none 0 0 else if i = L.length then Value.slice none 0 0 else K i) = .slice none 0 0 := by
                rw [List.length_append, List.length_singleton]
                by_cases e1 : i = L.length
                · simp [e1]
                · have : i = L.length + 1 := by omega
                  simp [this]
              rw [hk]
              exact fun w' _ => GrsV.nil w')
          exact ⟨va, vc, e, hs, pts_less hX hp⟩
        have LEN : Hid (∀ K, (pcells L K).length = L.length * 5) := fun K => pcells_len _ _
        have EL : Hid ((openL L o t).length = L.length + 2) := by show _ = _; unfold openL; simp
        clear hL hB hsl hF R h1 h2 eO er en hN
        generalize openL L o t = M at *
        have ROW : Hid (∀ (B : Nat) (W1 : World) (K : Nat → Value) (lo hi : Nat → Nat), CpI B L K lo hi L.length W1 → W1.ownsRow B 47 5 (.slice (some ⟨B, 0, none⟩) L.length L.length) L.length (pcells L K)) := fun B W1 K lo hi h => h.row
        obtain ⟨n, hn⟩ : ∃ z, L.length = z := ⟨_, rfl⟩
        rw [hn] at hN12 h10 hwr hwr1 hd DC DP FIN EL ROW
        rw [hn]
        clear hn
        have hb1 : n + 2 ≤ maxLen := by unfold maxLen; omega
        have hb2 : (n + 2) * 56 ≤ 140737488355328 := by omega
        go_enter Try.func5, Try.ntmps5
        go_wp2_with fail
        refine Calls.mono DC.out ?_
        rintro e w1 ⟨rfl, hb⟩
        have HB1 : Hid (Below w.heap.size w w1) := hb
        clear hb DC
        go_wp2_with fail
        refine Calls.mono (DO.out _) ?_
        rintro e w9 ⟨rfl, hw9⟩
        have hw10 := hw9.symm
        clear hw9
        subst hw10
        go_wp2_with fail
        refine Calls.mono (DP.out _ HB1.out) ?_
        rintro e w2 ⟨K, lo, hi, rfl, hb2', hc⟩
        have HB2 : Hid (Below w1.heap.size w1 w2) := hb2'
        have OW2 : Hid (w2.ownsRow w1.heap.size 47 5 (.slice (some ⟨w1.heap.size, 0, none⟩) n n) n (pcells L K)) := ROW.out _ _ _ _ _ hc
        have FF : Hid (∀ (w3 : World) (v2 : Value), _ → _ → _) := fun w3 v2 h1 h2 => FIN.out _ w2 w3 K lo hi v2 HB1.out.size hc h1 h2
        have s2 : w1.heap.size < w2.heap.size := (World.ownsRow.lt OW2.out _ rfl).2
        clear hb2' hc DP FIN ROW LEN
        generalize pcells L K = cs at *
        go_wp2_with (at_builtin; refine wpList_append_own _ rfl _ _ 22 rfl w1.heap.size 47 i0 (.agg #[.int .i64 0, .int .i64 0, .int .i64 0, .slice none 0 0, .bool false]) 5 56 Try.underlying22 hi0 hz0 hz1 hz2 rfl (by decide) (.slice (some ⟨w1.heap.size, 0, none⟩) n n) n cs rfl (World.ownsRow.alloc OW2.out _) ⟨w2.heap.size, 0, none⟩ 2 2 (pcell ⟨o, t, (n : Int) + 1, [], false⟩ (.slice none 0 0) ++ pcell ⟨o, t, (n : Int), [], false⟩ (.slice none 0 0)) rfl rfl ?c1 ?c2 hb1 hb2 ?c5 ?_)
        case c1 => first | exact alloc_news w2 [.int .i64 o, .int .i64 t, .int .i64 ((n : Int) + 1), .slice none 0 0, .bool false, .int .i64 o, .int .i64 t, .int .i64 (n : Int), .slice none 0 0, .bool false] _ | exact fun j u h => h
        case c2 => exact pcell_two _ _
        case c5 => first | omega | (simp; omega)
        intro v3 w3 own3 grow3 _
        have o3 : OffX (fun x => x = w1.heap.size) w2 w3 := (OffX.of_below (one_belowS w2 _)).trans (OffX.grown grow3 (fun b hb => by cases hb; rfl))
        obtain ⟨va, vc, rfl, hs, hp⟩ := FF.out w3 v3 o3 own3
        have HB3 : Hid (Below w.heap.size w w3) := (HB1.out.trans ((HB2.out.trans ((one_belowS w2 _).mono HB2.out.size)).mono HB1.out.size)).grown grow3 (by simp; have := HB1.out.size; omega) (fun kk hk => by cases hk; exact HB1.out.size)
        have HS : Hid _ := hs
        have HP : Hid _ := hp
        clear own3 grow3 o3 hs hp FF OW2
        go_wp2_with fail
        exact bodyPost_ret (v := .tuple #[.slice va (n + 2) vc, .int .i64 (n : Int), .int .i64 0]) (by simp [results, Try.results5, go_sem]) rfl (by first | exact ⟨va, vc, by rw [EL.out], HB3.out, (by rw [EL.out]; exact HS.out), HP.out⟩ | exact ⟨va, ⟨vc, by rw [EL.out]⟩, HB3.out, (by rw [EL.out]; exact HS.out), HP.out⟩)
    · have eO : openE L Fr o t = passE2 Fr o t := by
        unfold passE2 at h2
        unfold openE passE2
        rw [if_neg (not_not_intro h1)]
        by_cases e1 : 0 ≤ o ∧ o < Fr
        · rw [if_neg (not_not_intro e1)] at h2 ⊢
          by_cases e2 : 0 ≤ t ∧ t ≤ 1000
          · rw [if_neg (not_not_intro e2)] at h2; exact absurd rfl h2
          · rw [if_pos e2, if_neg (not_not_intro e1), if_pos e2]
        · rw [if_pos e1, if_pos e1]
      have er : resO L Fr o t = [] := by unfold resO; rw [eO, if_neg h2]
      have en : openN L Fr o t = 0 := by unfold openN; rw [eO, if_neg h2]
      rw [er, en, eO]
      have y1 : decide (passE2 Fr o t = 0) = false := decide_eq_false h2
      have y2 : (passE2 Fr o t == 0) = false := by simp [h2]
      clear hL hB hsl hF R h1 eO er en
      generalize passE2 Fr o t = E at *
      generalize L.length = n at *
      go_enter Try.func5, Try.ntmps5
      go_wp2_with fail
      refine Calls.mono DC.out ?_
      rintro e w1 ⟨rfl, hb⟩
      have HB1 : Hid (Below w.heap.size w w1) := hb
      clear hb DC
      go_wp2_with fail
      refine Calls.mono (DO.out _) ?_
      rintro e w9 ⟨rfl, hw9⟩
      have hw10 := hw9.symm
      clear hw9
      subst hw10
      go_wp2_with fail
      exact bodyPost_ret (v := .tuple #[.slice none 0 0, .int .i64 0, .int .i64 E]) (by simp [results, Try.results5, go_sem]) rfl ⟨none, 0, rfl, HB1.out, sl_nil, pts_nilS X _⟩
  · have eO : openE L Fr o t = pcheckE L Fr := by unfold openE; rw [if_pos h1]
    have er : resO L Fr o t = [] := by unfold resO; rw [eO, if_neg h1]
    have en : openN L Fr o t = 0 := by unfold openN; rw [eO, if_neg h1]
    rw [er, en, eO]
    have y1 : decide (pcheckE L Fr = 0) = false := decide_eq_false h1
    have y2 : (pcheckE L Fr == 0) = false := by simp [h1]
    clear hL hB hsl eO er en DO
    generalize pcheckE L Fr = E at *
    generalize L.length = n at *
    go_enter Try.func5, Try.ntmps5
    go_wp2_with fail
    refine Calls.mono DC.out ?_
    rintro e w1 ⟨rfl, hb⟩
    have HB1 : Hid (Below w.heap.size w w1) := hb
    clear hb DC
    go_wp2_with fail
    exact bodyPost_ret (v := .tuple #[.slice none 0 0, .int .i64 0, .int .i64 E]) (by simp [results, Try.results5, go_sem]) rfl ⟨none, 0, rfl, HB1.out, sl_nil, pts_nilS X _⟩

theorem tail_full (ob OL : Nat) (h : OL ≤ 1000) : ∃ o', (∀ W, (Instr.slice 41 (.slice (some ⟨ob, 0, none⟩) (OL + 1) (OL + 1)) (some (.int .i64 1)) none none).run Try.prog W = .ok (.slice (some ⟨ob, o', none⟩) OL OL) W) ∧ (OL = 0 ∨ o' = 1) := by
  by_cases e : OL = 0
  · subst e
    exact ⟨0, fun W => by go_simp, Or.inl rfl⟩
  · have h1 : ¬ ((OL : Int) + 1 = 1) := by omega
    have h2 : (1 : Int) ≤ (OL : Int) + 1 := by omega
    exact ⟨1, fun W => (by first | (go_simp; done) | (go_simp; intro h; omega)), Or.inr rfl⟩

set_option maxRecDepth 100000 in
set_option maxHeartbeats 4000000 in
theorem pull_ansX : PullAnsX := fun X a c L Fr k o t w hX hN hB hsl hL => by
  have DH : Hid (∀ o1 : Obj, _) := fun o1 => checkHeld_anyPwd a c L Fr k o t (w.alloc o1) hN hB hsl (hL.at.below (one_belowS _ _))
  unfold resPull pullG
  by_cases hH : heldPE L Fr k o t = 0
  · rw [hH] at DH
    obtain ⟨R, q, rfl, hq, _⟩ := heldP_zero hH
    have hN12 := R.few
    have hF := few_right R
    have hq2 : (q : Int) < (L.length : Int) := by omega
    obtain ⟨b, oo, ea, _, _, _, ca, cc, c3, _, _⟩ := hL.at q hq
    subst ea
    have hbb : b < w.heap.size := World.block_lt_of_cell? _ _ c3
    by_cases h0 : (pt L q).cm.length = 0
    · have eP : pullE L Fr q o t = 8 := by unfold pullE; rw [hH, Int.toNat_natCast, if_pos h0]; rfl
      rw [eP]
      rw [h0] at c3
      clear hL hB hsl hF R hH eP h0
      generalize L.length = n at *
      go_enter Try.func8, Try.ntmps8
      go_wp2_with fail
      refine Calls.mono (DH.out _) ?_
      rintro e w1 ⟨rfl, hb1⟩
      have HB1 : Hid (Below w.heap.size w w1) := (one_belowS _ _).trans (hb1.mono (by simp))
      have r1 : w1.cell? ⟨w.heap.size, 0, none⟩ = some (.slice none 0 0) := keepC (alloc_cell w #[.slice none 0 0] 25 0 rfl) hb1
      have f1 : w1.frozen? ⟨w.heap.size, 0, none⟩ = false := (hb1.frozen (by simp)).trans (by go_simp)
      have s1 : w.heap.size < w1.heap.size := World.block_lt_of_cell? _ _ r1
      replace c3 := keepC c3 HB1.out
      have hne : ¬ b = w.heap.size := by omega
      have hne2 : ¬ w.heap.size = b := by omega
      clear hb1 DH
      go_wp2_with fail
      have HB2 : Hid (Below w.heap.size w (w1.setCell ⟨w.heap.size, 0, none⟩ (.slice none 0 0))) := HB1.out.setCell (by simp) _
      exact bodyPost_ret (v := .tuple #[.slice none 0 0, .agg #[.slice none 0 0], .int .i64 8]) (by simp [results, Try.results8, go_sem, r1]) rfl (by first | exact ⟨none, 0, none, 0, rfl, HB2.out, sl_nil, pts_nilS X _, fun w' _ i hi => absurd hi (Nat.not_lt_zero _)⟩ | exact ⟨none, 0, none, ⟨0, rfl⟩, HB2.out, sl_nil, pts_nilS X _, fun w' _ i hi => absurd hi (Nat.not_lt_zero _)⟩ | exact ⟨none, 0, ⟨none, 0, rfl⟩, HB2.out, sl_nil, pts_nilS X _, fun w' _ i hi => absurd hi (Nat.not_lt_zero _)⟩)
    · have eP : pullE L Fr q o t = 0 := by unfold pullE; rw [hH, Int.toNat_natCast, if_neg h0]; rfl
      rw [eP, if_pos rfl, if_pos rfl, Int.toNat_natCast]
      obtain ⟨OL, hOL⟩ : ∃ OL, (pt L q).cm.length = OL + 1 := ⟨(pt L q).cm.length - 1, by omega⟩
      have hOL16 : OL ≤ 16 := by have := (portE_zero.1 (R.ok q hq)).2.2.2.2.1.1; omega
      rw [hOL] at c3
      have DP : Hid (∀ W, Below w.heap.size w W → _) := fun W hW => cports_any (some ⟨b, oo, none⟩) c L W hN12 hF (hL.at.below hW)
      have FIN : Hid (∀ (B : Nat) (W1 W3 : World) (K : Nat → Value) (lo hi : Nat → Nat) (bq o' : Nat) (ga : Option Addr) (gc : Nat) (J : Nat → Value), w.heap.size ≤ B → CpI B L K lo hi L.length W1 → lo q ≤ bq → bq < hi q → W1.rowIs bq 25 (OL + 1) J → (∀ i, i < OL + 1 → ∃ ga gc, J i = .slice ga (gr (pt L q).cm i).length gc ∧ St (fun x => x ≤ bq ∨ hi q ≤ x) (fun w => ClsAt w ga (gr (pt L q).cm i)) W1) → J 0 = .slice ga (gr (pt L q).cm 0).length gc → (OL = 0 ∨ o' = 1) → OffX (fun x => x ≤ B) (W1.setCell ⟨B, q * 5 + 3, none⟩ (.slice (some ⟨bq, o', none⟩) OL OL)) W3 → W3.heap[B]? = (W1.setCell ⟨B, q * 5 + 3, none⟩ (.slice (some ⟨bq, o', none⟩) OL OL)).heap[B]? → SlA (some ⟨B, 0, none⟩) L.length L.length ∧ PtsSt X W3 (some ⟨B, 0, none⟩) (pullL L q) ∧ ClsSt X W3 ga (gr (pt L q).cm 0)) := fun B W1 W3 K lo hi bq o' ga gc J hBw h hb1 hb2 hrow hgs hJ0 ho' hoff hB3 => by
        have hlo := (h.at' q hq).1
        have ho : OffX (fun x => x ≤ B) W1 W3 := (OffX.set (X := fun x => x ≤ B) W1 _ (Nat.le_refl B)).trans hoff
        have a1 := row_put h.row (k := q) (f := 3) (u := .slice (some ⟨bq, o', none⟩) OL OL) (v := .slice (some ⟨bq, o', none⟩) OL OL) (x := { pt L q with cm := (pt L q).cm.drop 1 }) hq (by omega) rfl
        have a2 := owns_block a1 (w' := W3) (fun kk hk => by cases hk; exact hB3)
        have hd : ((pt L q).cm.drop 1).length = OL := by simp [hOL]
        have hx : St (fun x => x < w.heap.size) (fun w => GrsV w (.slice (some ⟨bq, o', none⟩) OL OL) ((pt L q).cm.drop 1)) W3 := fun w' hw' => by
          have h2 : OffX (fun x => x ≤ B) W1 w' := ho.trans (hw'.mono (fun x (hx : x < w.heap.size) => (by show x ≤ B; omega)))
          have hrow' := hrow.of_block (h2.block bq hrow.lt (by show ¬ bq ≤ B; omega))
          refine ⟨some ⟨bq, o', none⟩, OL, by rw [hd], ⟨(fun e => by cases e), by rw [hd]; exact Nat.le_refl _, by omega⟩, fun i hi' => ?_⟩
          rw [hd] at hi'
          obtain ⟨ga', gc', e, hs⟩ := hgs (i + 1) (by omega)
          have ho1 : o' = 1 := by rcases ho' with h | h; omega; exact h
          subst ho1
          refine ⟨bq, 1, ga', gc', rfl, ?_, ?_⟩
          · rw [gr_drop _ (by omega), Nat.add_comm 1 i, hrow'.cell (by omega), e]
          · rw [gr_drop _ (by omega)]
            exact (hs.off (h2.mono (fun x (hx : x ≤ B) => (by show x ≤ bq ∨ hi q ≤ x; omega)))).at
        have h1 := h.put (Y := fun x => x ≤ B) (B0 := w.heap.size) hBw hF hq a2 (fun i hi => by simp only [if_neg hi]) ho (fun b hb => Or.inl hb) (by simp only [if_true]; exact hx)
        refine ⟨h1.1, ?_, ?_⟩
        · unfold pullL
          rw [Int.toNat_natCast]
          exact pts_less hX h1.2
        · obtain ⟨ga', gc', e, hs⟩ := hgs 0 (by omega)
          rw [hJ0] at e
          simp only [Value.slice.injEq] at e
          obtain ⟨rfl, _, rfl⟩ := e
          exact (hs.off (ho.mono (fun x (hx : x ≤ B) => (by show x ≤ bq ∨ hi q ≤ x; omega)))).less (fun x hx => (by show x ≤ bq ∨ hi q ≤ x; have := hX x hx; omega))
      have OC : Hid (∀ (B : Nat) (W1 : World) (K : Nat → Value) (lo hi : Nat → Nat), CpI B L K lo hi L.length W1 → ∃ bq J ga gc, W1.cell? ⟨B, q * 5 + 3, none⟩ = some (.slice (some ⟨bq, 0, none⟩) (OL + 1) (OL + 1)) ∧ (∀ o, W1.frozen? ⟨B, o, none⟩ = false) ∧ B < bq ∧ lo q ≤ bq ∧ bq < hi q ∧ W1.cell? ⟨bq, 0, none⟩ = some (.slice ga (gr (pt L q).cm 0).length gc) ∧ J 0 = .slice ga (gr (pt L q).cm 0).length gc ∧ Hid (W1.rowIs bq 25 (OL + 1) J ∧ (∀ i, i < OL + 1 → ∃ ga gc, J i = .slice ga (gr (pt L q).cm i).length gc ∧ St (fun x => x ≤ bq ∨ hi q ≤ x) (fun w => ClsAt w ga (gr (pt L q).cm i)) W1))) := fun B W1 K lo hi h => by
        obtain ⟨bq, J, h1, h2, h3, h4, h5⟩ := h.gs q hq
        have hlo := (h.at' q hq).1
        rw [hOL] at h3 h4 h5
        obtain ⟨ga, gc, e, _⟩ := h5 0 (by omega)
        refine ⟨bq, J, ga, gc, ?_, fun o => h.row.frozenAt o, by omega, h1, h2, ?_, e, ⟨h4, h5⟩⟩
        · exact (h.cell hq (show 3 < 5 by omega)).trans (by rw [h3]; rfl)
        · rw [h4.cell (by omega), e]
      have ML : Hid ((pullL L q).length = L.length) := by show _ = _; unfold pullL; simp
      clear hL hB hsl hF R hH eP h0 hOL hN
      generalize pullL L q = M at *
      generalize gr (pt L q).cm 0 = G0 at *
      obtain ⟨n, hn⟩ : ∃ z, L.length = z := ⟨_, rfl⟩
      rw [hn] at hq hq2 hN12 DH DP FIN OC ML
      rw [hn]
      clear hn
      go_enter Try.func8, Try.ntmps8
      go_wp2_with fail
      refine Calls.mono (DH.out _) ?_
      rintro e w1 ⟨rfl, hb1⟩
      have HB1 : Hid (Below w.heap.size w w1) := (one_belowS _ _).trans (hb1.mono (by simp))
      have r1 : w1.cell? ⟨w.heap.size, 0, none⟩ = some (.slice none 0 0) := keepC (alloc_cell w #[.slice none 0 0] 25 0 rfl) hb1
      have f1 : w1.frozen? ⟨w.heap.size, 0, none⟩ = false := (hb1.frozen (by simp)).trans (by go_simp)
      have s1 : w.heap.size < w1.heap.size := World.block_lt_of_cell? _ _ r1
      replace c3 := keepC c3 HB1.out
      have k1 : ¬ ((OL : Int) + 1 = 0) := by omega
      have k2 : decide ((OL : Int) + 1 = 0) = false := decide_eq_false k1
      have k3 : ((OL : Int) + 1 == 0) = false := by simp; omega
      clear hb1 DH
      go_wp2_with fail
      refine Calls.mono (DP.out _ HB1.out) ?_
      rintro e w2 ⟨K, lo, hi, rfl, hb2, hc⟩
      obtain ⟨bq, J, ga, gc, x3, fz, hBq, hl1, hl2, xq, hJ, HR⟩ := OC.out _ _ _ _ _ hc
      obtain ⟨o', hsl, ho'⟩ := tail_full bq OL (by omega)
      have FF : Hid (∀ W3, _ → _ → _) := fun W3 h1 h2 => FIN.out _ w2 W3 K lo hi bq o' ga gc J HB1.out.size hc hl1 hl2 HR.out.1 HR.out.2 hJ ho' h1 h2
      have HB2 : Hid (Below w1.heap.size w1 w2) := hb2
      replace r1 := keepC r1 hb2
      have f2 : w2.frozen? ⟨w.heap.size, 0, none⟩ = false := (hb2.frozen (show (⟨w.heap.size, 0, none⟩ : Addr).block < w1.heap.size from s1)).trans f1
      have s2 : w1.heap.size < w2.heap.size := World.block_lt_of_cell? _ _ x3
      have s3 : bq < w2.heap.size := World.block_lt_of_cell? _ _ xq
      have s4 : w.heap.size < w2.heap.size := World.block_lt_of_cell? _ _ r1
      have n1 : ¬ bq = w1.heap.size := by omega
      have n2 : ¬ w1.heap.size = bq := by omega
      have n3 : ¬ w.heap.size = w1.heap.size := by omega
      have n4 : ¬ w1.heap.size = w.heap.size := by omega
      have n5 : ¬ w.heap.size = bq := by omega
      have n6 : ¬ bq = w.heap.size := by omega
      clear hb2 hc DP FIN OC hJ HR ho' f1 c3
      obtain ⟨gl, hgl⟩ : ∃ z, G0.length = z := ⟨_, rfl⟩
      have HGL : Hid (G0.length = gl) := hgl
      rw [hgl] at xq
      clear hgl
      go_wp2_with fail
      obtain ⟨Y, hY⟩ : ∃ Y, w2.setCell ⟨w1.heap.size, q * 5 + 3, none⟩ (.slice (some ⟨bq, o', none⟩) OL OL) = Y := ⟨_, rfl⟩
      have yq : Y.cell? ⟨bq, 0, none⟩ = some (.slice ga gl gc) := by rw [← hY]; exact (cell_keptQ (Below.heap_setCell _ _ _ _ (by show bq ≠ w1.heap.size; omega))).trans xq
      have y1 : Y.cell? ⟨w.heap.size, 0, none⟩ = some (.slice none 0 0) := by rw [← hY]; exact (cell_keptQ (Below.heap_setCell _ _ _ _ (by show w.heap.size ≠ w1.heap.size; omega))).trans r1
      have yf : Y.frozen? ⟨w.heap.size, 0, none⟩ = false := by rw [← hY]; exact (frozen_keptQ (Below.heap_setCell _ _ _ _ (by show w.heap.size ≠ w1.heap.size; omega))).trans f2
      have BY : Hid (Below w.heap.size w Y) := by rw [← hY]; exact (HB1.out.trans (HB2.out.mono HB1.out.size)).setCell (show w.heap.size ≤ w1.heap.size from HB1.out.size) _
      rw [hY] at FF ⊢
      have sY1 : w.heap.size < Y.heap.size := World.block_lt_of_cell? _ _ y1
      have sY2 : bq < Y.heap.size := World.block_lt_of_cell? _ _ yq
      clear hY x3 fz xq r1 f2 hsl
      go_region
      have o9 : OffX (fun x => x ≤ w1.heap.size) Y (Y.setCell ⟨w.heap.size, 0, none⟩ (.slice ga gl gc)) := OffX.set (X := fun x => x ≤ w1.heap.size) Y _ (Nat.le_of_lt s1)
      have FF9 : Hid _ := FF.out _ o9 (Below.heap_setCell _ _ _ _ (by show w1.heap.size ≠ w.heap.size; omega))
      have r9 : ((Y.setCell ⟨w.heap.size, 0, none⟩ (.slice ga gl gc)).drew).cell? ⟨w.heap.size, 0, none⟩ = some (.slice ga gl gc) := by go_simp
      have P9 : Hid (PtsSt X (Y.setCell ⟨w.heap.size, 0, none⟩ (.slice ga gl gc)).drew (some ⟨w1.heap.size, 0, none⟩) M) := FF9.out.2.1.off ⟨Nat.le_refl _, fun _ _ _ => rfl⟩
      have G9 : Hid (ClsSt X (Y.setCell ⟨w.heap.size, 0, none⟩ (.slice ga gl gc)).drew ga G0) := FF9.out.2.2.off ⟨Nat.le_refl _, fun _ _ _ => rfl⟩
      have S9 : Hid _ := FF9.out.1
      have B9 : Hid (Below w.heap.size w (Y.setCell ⟨w.heap.size, 0, none⟩ (.slice ga gl gc)).drew) := (BY.out.setCell (by simp) _).drew
      clear FF FF9 o9
      obtain ⟨w9, hw9⟩ : ∃ w9, (Y.setCell ⟨w.heap.size, 0, none⟩ (.slice ga gl gc)).drew = w9 := ⟨_, rfl⟩
      rw [hw9] at r9 P9 G9 B9 ⊢
      clear hw9
      go_wp2_with fail
      exact bodyPost_ret (v := .tuple #[.slice (some ⟨w1.heap.size, 0, none⟩) n n, .agg #[.slice ga gl gc], .int .i64 0]) (by simp [results, Try.results8, go_sem, r9]) rfl (by first | exact ⟨_, n, ga, gc, by rw [ML.out, HGL.out], B9.out, (by rw [ML.out]; exact S9.out), P9.out, G9.out⟩ | exact ⟨_, ⟨n, ga, ⟨gc, by rw [ML.out, HGL.out]⟩, B9.out, (by rw [ML.out]; exact S9.out), P9.out, G9.out⟩⟩)
  · have eP : pullE L Fr k o t = heldPE L Fr k o t := by unfold pullE; rw [if_pos hH]
    rw [eP, if_neg hH, if_neg hH]
    have y1 : decide (heldPE L Fr k o t = 0) = false := decide_eq_false hH
    have y2 : (heldPE L Fr k o t == 0) = false := by simp [hH]
    clear hL hB hsl eP
    generalize heldPE L Fr k o t = E at *
    generalize L.length = n at *
    go_enter Try.func8, Try.ntmps8
    go_wp2_with fail
    refine Calls.mono (DH.out _) ?_
    rintro e w1 ⟨rfl, hb1⟩
    have HB1 : Hid (Below w.heap.size w w1) := (one_belowS _ _).trans (hb1.mono (by simp))
    have r1 : w1.cell? ⟨w.heap.size, 0, none⟩ = some (.slice none 0 0) := keepC (alloc_cell w #[.slice none 0 0] 25 0 rfl) hb1
    have f1 : w1.frozen? ⟨w.heap.size, 0, none⟩ = false := (hb1.frozen (by simp)).trans (by go_simp)
    have s1 : w.heap.size < w1.heap.size := World.block_lt_of_cell? _ _ r1
    clear hb1 DH
    go_wp2_with fail
    have HB2 : Hid (Below w.heap.size w (w1.setCell ⟨w.heap.size, 0, none⟩ (.slice none 0 0))) := HB1.out.setCell (by simp) _
    exact bodyPost_ret (v := .tuple #[.slice none 0 0, .agg #[.slice none 0 0], .int .i64 E]) (by simp [results, Try.results8, go_sem, r1]) rfl (by first | exact ⟨none, 0, none, 0, rfl, HB2.out, sl_nil, pts_nilS X _, fun w' _ i hi => absurd hi (Nat.not_lt_zero _)⟩ | exact ⟨none, 0, none, ⟨0, rfl⟩, HB2.out, sl_nil, pts_nilS X _, fun w' _ i hi => absurd hi (Nat.not_lt_zero _)⟩ | exact ⟨none, 0, ⟨none, 0, rfl⟩, HB2.out, sl_nil, pts_nilS X _, fun w' _ i hi => absurd hi (Nat.not_lt_zero _)⟩)
end Go.Proofs.Ytgjfmepbphfjoaa
