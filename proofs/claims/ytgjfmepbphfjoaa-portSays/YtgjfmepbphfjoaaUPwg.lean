/-
  Push at the landed code.
-/
import Derived.Test.YtgjfmepbphfjoaaUPwe
namespace Go.Proofs.Ytgjfmepbphfjoaa
open Go.RowKit Go.ChangeShapes Go.WideShapes
set_option linter.unusedVariables false

theorem ownG_of_row {w : World} {B g n : Nat} {F : Nat → Value} (h : w.rowIs g 25 n F) (h2 : n ≤ 1000) (h3 : B ≤ g) : w.ownsRow B 25 1 (.slice (some ⟨g, 0, none⟩) n n) n (grow n F) := by
  obtain ⟨cur, hc, hs, hf⟩ := h
  refine ⟨by rw [grow_len, Nat.mul_one], Or.inr ⟨g, n, cur, rfl, h3, hc, Nat.le_refl _, by unfold maxLen; omega, by omega, ?_⟩⟩
  rw [Nat.mul_one]
  refine List.ext_getElem? fun j => ?_
  rw [List.getElem?_take]
  by_cases hj : j < n
  · rw [if_pos hj, Array.getElem?_toList, hf j (by omega), grow_at hj]
  · rw [if_neg hj, List.getElem?_eq_none (by rw [grow_len]; omega)]
theorem ownC_st {B : Nat} {G : List Cl} {K : Nat → Value} {v : Value} {w : World} (h : OwnC B G K v w) : ∃ a c, v = .slice a G.length c ∧ St (fun x => x < B ∨ w.heap.size ≤ x) (fun w => ClsAt w a G) w := by
  obtain ⟨a, c, e, _⟩ := h.cls
  refine ⟨a, c, e, fun w' ho => ?_⟩
  have h' := h.kept (w' := w') (fun j hj hl _ => ho.block j hl (by show ¬ (j < B ∨ w.heap.size ≤ j); omega))
  obtain ⟨a', c', e', hc⟩ := h'.cls
  rw [e] at e'
  cases e'
  exact hc
theorem push_fin {X : Nat → Prop} {B0 B : Nat} {L : List Pt} {K : Nat → Value} {lo hi : Nat → Nat} {W1 w9 : World} {q bq vc : Nat} {J : Nat → Value} {v9 : Value} {va : Option Addr} {G : List Cl} (hX : ∀ b, X b → b < B0) (h0 : B0 ≤ B) (hF : FewP L) (hq : q < L.length) (h : CpI B L K lo hi L.length W1) (h1 : lo q ≤ bq) (h2 : bq < hi q)
    (hgs : ∀ i, i < (pt L q).cm.length → ∃ ga gc, J i = .slice ga (gr (pt L q).cm i).length gc ∧ St (fun x => x ≤ bq ∨ hi q ≤ x) (fun w => ClsAt w ga (gr (pt L q).cm i)) W1) (ho : OffX (fun x => x = bq) W1 w9)
    (hrow : w9.ownsRow (lo q) 25 1 v9 ((pt L q).cm.length + 1) (grow (pt L q).cm.length J ++ [.slice va G.length vc])) (hg : St (fun x => x < B0 ∨ x = B) (fun w => ClsAt w va G) w9) :
    SlA (some ⟨B, 0, none⟩) L.length L.length ∧ PtsSt X (w9.setCell ⟨B, q * 5 + 3, none⟩ v9) (some ⟨B, 0, none⟩) (L.set q { pt L q with cm := (pt L q).cm ++ [G] }) := by
  have hlo := (h.at' q hq).1
  have row9 := owns_block h.row (w' := w9) (fun kk hk => by cases hk; exact ho.block B (h.row.lt B rfl).2 (by show ¬ B = bq; omega))
  have a1 := row_put row9 (k := q) (f := 3) (u := v9) (v := v9) (x := { pt L q with cm := (pt L q).cm ++ [G] }) hq (by omega) rfl
  have oS : OffX (fun x => x = B) w9 (w9.setCell ⟨B, q * 5 + 3, none⟩ v9) := OffX.set (X := fun x => x = B) w9 _ rfl
  have o2 : OffX (fun x => x = bq ∨ x = B) W1 (w9.setCell ⟨B, q * 5 + 3, none⟩ v9) := (ho.mono (fun _ h => Or.inl h)).trans (oS.mono (fun _ h => Or.inr h))
  have hr10 := owns_block hrow (w' := w9.setCell ⟨B, q * 5 + 3, none⟩ v9) (fun kk hk => Below.heap_setCell _ _ _ _ (by show kk ≠ B; have := (hrow.lt kk hk).1; omega))
  have hx : St (fun x => x < B0) (fun w => GrsV w v9 ((pt L q).cm ++ [G])) (w9.setCell ⟨B, q * 5 + 3, none⟩ v9) := fun w' hw' => by
    have hr' := owns_block hr10 (w' := w') (fun kk hk => hw'.block kk (hr10.lt kk hk).2 (by show ¬ kk < B0; have := (hr10.lt kk hk).1; omega))
    have el : ((pt L q).cm ++ [G]).length = (pt L q).cm.length + 1 := by simp
    rw [grow_snoc, ← el] at hr'
    refine grs_own hr' (fun i hi' => ?_)
    rw [el] at hi'
    by_cases e : i = (pt L q).cm.length
    · simp only [if_pos e]
      subst e
      rw [gr_last]
      exact ⟨va, vc, rfl, hg w' ((oS.mono (fun _ h => Or.inr h)).trans (hw'.mono (fun _ h => Or.inl h)))⟩
    · simp only [if_neg e]
      rw [gr_left (by omega)]
      obtain ⟨ga, gc, e2, hs⟩ := hgs i (by omega)
      refine ⟨ga, gc, e2, hs w' ((o2.mono (fun x hx => ?_)).trans (hw'.mono (fun x hx => ?_)))⟩
      · show x ≤ bq ∨ hi q ≤ x
        rcases hx with hx | hx
        · exact Or.inl (by omega)
        · exact Or.inl (by omega)
      · show x ≤ bq ∨ hi q ≤ x
        have : x < B0 := hx
        exact Or.inl (by omega)
  have h3 := h.put (Y := fun x => x = bq ∨ x = B) h0 hF hq a1 (fun i hi => by simp only [if_neg hi]) o2 (fun b hb => by
    rcases hb with hb | hb
    · exact Or.inr (by omega)
    · exact Or.inl (by omega)) (by simp only [if_true]; exact hx)
  exact ⟨h3.1, pts_less hX h3.2⟩

set_option maxRecDepth 100000 in
set_option maxHeartbeats 8000000 in
theorem push_ansX : PushAnsX := fun X a c L Fr k o t ga gc G w hX hN hB hsl hL hGN hGB hG => by
  have DH : Hid (∀ o1 : Obj, _) := fun o1 => checkHeld_anyPwd a c L Fr k o t (w.alloc o1) hN hB hsl (hL.at.below (one_belowS _ _))
  have DG : Hid (∀ W, Below w.heap.size w W → _) := fun W hW => gcopy_any ga gc G W hGN hGB (hG.below hW)
  unfold resPush
  by_cases hH : heldPE L Fr k o t = 0
  · rw [hH] at DH
    obtain ⟨R, kk, rfl, hk, _⟩ := heldP_zero hH
    obtain ⟨q, hq, hqn, hqk, _⟩ := R.mate hk
    have hN12 := R.few
    have hF := few_right R
    have hk2 : (kk : Int) < (L.length : Int) := by omega
    have hq2 : (q : Int) < (L.length : Int) := by omega
    have eM : mateP L kk = pt L q := by unfold mateP; rw [Int.toNat_natCast, hq, Int.toNat_natCast]
    have eP : pushE L Fr kk o t G = if gcheckE G ≠ 0 then gcheckE G else if (pt L q).s = true then 5 else if (pt L q).cm.length = 16 then 1 else 0 := by unfold pushE; rw [hH, eM]; rfl
    have eL : pushL L kk G = L.set q { pt L q with cm := (pt L q).cm ++ [copyF G] } := by unfold pushL; rw [eM, Int.toNat_natCast, hq, Int.toNat_natCast]
    obtain ⟨b, oo, ea, _, _, c2, _⟩ := hL.at kk hk
    obtain ⟨b', oo', ea', _, _, _, ca, cc, d3, _, d4⟩ := hL.at q hqn
    subst ea
    cases ea'
    rw [hq] at c2
    have hbb : b < w.heap.size := World.block_lt_of_cell? _ _ c2
    rw [eP]
    by_cases hE : gcheckE G = 0
    · rw [if_neg (not_not_intro hE)]
      rw [hE] at DG
      have eR : resF G = copyF G := if_pos hE
      rw [eR] at DG
      cases hs : (pt L q).s with
      | true =>
        rw [if_pos rfl, if_neg (show ¬ (5 : Int) = 0 by decide)]
        rw [hs] at d4
        clear hL hB hsl hF R hH eP eL eM hE eR hs hG hGB
        generalize G.length = gl at *
        generalize (pt L q).cm.length = cl at *
        generalize L.length = n at *
        generalize copyF G = cF at *
        go_enter Try.func7, Try.ntmps7
        go_wp2_with fail
        refine Calls.mono (DH.out _) ?_
        rintro e w1 ⟨rfl, hb1⟩
        have HB1 : Hid (Below w.heap.size w w1) := (one_belowS _ _).trans (hb1.mono (by simp))
        have r1 : w1.cell? ⟨w.heap.size, 0, none⟩ = some (.slice ga gl gc) := keepC (alloc_cell w #[.slice ga gl gc] 25 0 rfl) hb1
        have s1 : w.heap.size < w1.heap.size := World.block_lt_of_cell? _ _ r1
        clear hb1 DH
        go_wp2_with fail
        refine Calls.mono (DG.out _ HB1.out) ?_
        rintro e w2 ⟨v2, rfl, hb2', Kc, hown⟩
        obtain ⟨va, vc, rfl, hst⟩ := ownC_st hown
        have SENT : Hid _ := hst
        have HB2 : Hid (Below w.heap.size w w2) := HB1.out.trans (hb2'.mono HB1.out.size)
        have e2 := keepC c2 HB2.out
        have e3 := keepC d3 HB2.out
        have e4 := keepC d4 HB2.out
        have sb2 : b < w2.heap.size := World.block_lt_of_cell? _ _ e2
        obtain ⟨vl, hvl⟩ : ∃ z, cF.length = z := ⟨_, rfl⟩
        have HVL : Hid (cF.length = vl) := hvl
        rw [hvl]
        clear hvl hb2' hown hst DG r1
        go_wp2_with fail
        exact bodyPost_ret (v := .tuple #[.slice none 0 0, .int .i64 5]) (by simp [results, Try.results7, go_sem]) rfl ⟨none, 0, rfl, HB2.out.alloc HB2.out.size _, sl_nil, pts_nilS X _⟩
      | false =>
        rw [if_neg (show ¬ (false = true) by decide)]
        rw [hs] at d4
        by_cases h16 : (pt L q).cm.length = 16
        · rw [if_pos h16, if_neg (show ¬ (1 : Int) = 0 by decide)]
          rw [h16] at d3
          clear hL hB hsl hF R hH eP eL eM hE eR hs hG hGB h16
          generalize G.length = gl at *
          generalize L.length = n at *
          generalize copyF G = cF at *
          go_enter Try.func7, Try.ntmps7
          go_wp2_with fail
          refine Calls.mono (DH.out _) ?_
          rintro e w1 ⟨rfl, hb1⟩
          have HB1 : Hid (Below w.heap.size w w1) := (one_belowS _ _).trans (hb1.mono (by simp))
          have r1 : w1.cell? ⟨w.heap.size, 0, none⟩ = some (.slice ga gl gc) := keepC (alloc_cell w #[.slice ga gl gc] 25 0 rfl) hb1
          have s1 : w.heap.size < w1.heap.size := World.block_lt_of_cell? _ _ r1
          clear hb1 DH
          go_wp2_with fail
          refine Calls.mono (DG.out _ HB1.out) ?_
          rintro e w2 ⟨v2, rfl, hb2', Kc, hown⟩
          obtain ⟨va, vc, rfl, hst⟩ := ownC_st hown
          have SENT : Hid _ := hst
          have HB2 : Hid (Below w.heap.size w w2) := HB1.out.trans (hb2'.mono HB1.out.size)
          have e2 := keepC c2 HB2.out
          have e3 := keepC d3 HB2.out
          have e4 := keepC d4 HB2.out
          have sb2 : b < w2.heap.size := World.block_lt_of_cell? _ _ e2
          obtain ⟨vl, hvl⟩ : ∃ z, cF.length = z := ⟨_, rfl⟩
          have HVL : Hid (cF.length = vl) := hvl
          rw [hvl]
          clear hvl hb2' hown hst DG r1
          go_wp2_with fail
          exact bodyPost_ret (v := .tuple #[.slice none 0 0, .int .i64 1]) (by simp [results, Try.results7, go_sem]) rfl ⟨none, 0, rfl, HB2.out.alloc HB2.out.size _, sl_nil, pts_nilS X _⟩
        · rw [if_neg h16, if_pos rfl]
          obtain ⟨i0, hi0, hz0, hz1, hz2⟩ := info_parts infoGraph
          have hcl16 : (pt L q).cm.length ≤ 16 := (portE_zero.1 (R.ok q hqn)).2.2.2.2.1.1
          have h16a : decide (((pt L q).cm.length : Int) = 16) = false := decide_eq_false (by omega)
          have h16b : (((pt L q).cm.length : Int) == 16) = false := by simp; omega
          have DP : Hid (∀ W, Below w.heap.size w W → _) := fun W hW => cports_any (some ⟨b, oo, none⟩) c L W hN12 hF (hL.at.below hW)
          have ML : Hid ((pushL L kk G).length = L.length) := by show _ = _; rw [eL]; simp
          have hb1 : (pt L q).cm.length + 1 ≤ maxLen := by unfold maxLen; omega
          have hb2 : ((pt L q).cm.length + 1) * 24 ≤ 140737488355328 := by omega
          have OC : Hid (∀ (B : Nat) (W1 : World) (K : Nat → Value) (lo hi : Nat → Nat), w.heap.size ≤ B → CpI B L K lo hi L.length W1 → ∃ bq cs, W1.cell? ⟨B, q * 5 + 3, none⟩ = some (.slice (some ⟨bq, 0, none⟩) (pt L q).cm.length (pt L q).cm.length) ∧ (∀ o, W1.frozen? ⟨B, o, none⟩ = false) ∧ B < lo q ∧ lo q ≤ bq ∧ lo q ≤ W1.heap.size ∧ W1.ownsRow (lo q) 25 1 (.slice (some ⟨bq, 0, none⟩) (pt L q).cm.length (pt L q).cm.length) (pt L q).cm.length cs ∧ ∀ (w9 : World) (v9 : Value) (va : Option Addr) (vc : Nat), OffX (fun x => x = bq) W1 w9 → w9.ownsRow (lo q) 25 1 v9 ((pt L q).cm.length + 1) (cs ++ [.slice va (copyF G).length vc]) → St (fun x => x < w.heap.size ∨ x = B) (fun w => ClsAt w va (copyF G)) w9 → SlA (some ⟨B, 0, none⟩) L.length L.length ∧ PtsSt X (w9.setCell ⟨B, q * 5 + 3, none⟩ v9) (some ⟨B, 0, none⟩) (pushL L kk G)) := fun B W1 K lo hi hBw h => by
            obtain ⟨bq, J, h1, h2, h3, h4, h5⟩ := h.gs q hqn
            have hlo := (h.at' q hqn).1
            refine ⟨bq, grow (pt L q).cm.length J, (h.cell hqn (show 3 < 5 by omega)).trans (by rw [h3]; rfl), fun o => h.row.frozenAt o, hlo, h1, by have := h4.lt; omega, ownG_of_row h4 (by omega) h1, fun w9 v9 va vc ho hrow hg => ?_⟩
            rw [eL]
            exact push_fin hX hBw hF hqn h h1 h2 h5 ho hrow hg
          clear hL hB hsl hF R hH eP eL eM hE eR hs hG hGB h16 hN
          generalize pushL L kk G = M at *
          generalize (pt L q).cm.length = cl at *
          generalize copyF G = cF at *
          generalize G.length = gl at *
          obtain ⟨n, hn⟩ : ∃ z, L.length = z := ⟨_, rfl⟩
          rw [hn] at hk hk2 hqn hq2 hN12 DH DP OC ML
          rw [hn]
          clear hn
          go_enter Try.func7, Try.ntmps7
          go_wp2_with fail
          refine Calls.mono (DH.out _) ?_
          rintro e w1 ⟨rfl, hb1⟩
          have HB1 : Hid (Below w.heap.size w w1) := (one_belowS _ _).trans (hb1.mono (by simp))
          have r1 : w1.cell? ⟨w.heap.size, 0, none⟩ = some (.slice ga gl gc) := keepC (alloc_cell w #[.slice ga gl gc] 25 0 rfl) hb1
          have s1 : w.heap.size < w1.heap.size := World.block_lt_of_cell? _ _ r1
          clear hb1 DH
          go_wp2_with fail
          refine Calls.mono (DG.out _ HB1.out) ?_
          rintro e w2 ⟨v2, rfl, hb2', Kc, hown⟩
          obtain ⟨va, vc, rfl, hst⟩ := ownC_st hown
          have SENT : Hid _ := hst
          have HB2 : Hid (Below w.heap.size w w2) := HB1.out.trans (hb2'.mono HB1.out.size)
          have e2 := keepC c2 HB2.out
          have e3 := keepC d3 HB2.out
          have e4 := keepC d4 HB2.out
          have sb2 : b < w2.heap.size := World.block_lt_of_cell? _ _ e2
          obtain ⟨vl, hvl⟩ : ∃ z, cF.length = z := ⟨_, rfl⟩
          have HVL : Hid (cF.length = vl) := hvl
          rw [hvl]
          clear hvl hb2' hown hst DG r1
          go_wp2_with fail
          obtain ⟨Z, hZ⟩ : ∃ Z, w2.alloc (.cells #[.slice va vl vc] 25) = Z := ⟨_, rfl⟩
          have xs0 : Z.cell? ⟨w2.heap.size, 0, none⟩ = some (.slice va vl vc) := by rw [← hZ]; exact alloc_cell w2 _ _ 0 rfl
          have BZ : Hid (Below w2.heap.size w2 Z) := by rw [← hZ]; exact one_belowS _ _
          have HBZ : Hid (Below w.heap.size w Z) := HB2.out.trans (BZ.out.mono HB2.out.size)
          have sZ : w2.heap.size < Z.heap.size := World.block_lt_of_cell? _ _ xs0
          rw [hZ]
          clear hZ
          refine Calls.mono (DP.out _ HBZ.out) ?_
          rintro e w3 ⟨K, lo, hi, rfl, hb3, hc⟩
          obtain ⟨bq, cs, x3, fz, hB1, hB2, hlw, hown3, hfin⟩ := OC.out _ _ _ _ _ HBZ.out.size hc
          obtain ⟨lq, hlq⟩ : ∃ lq, lo q = lq := ⟨_, rfl⟩
          rw [hlq] at hB1 hB2 hlw hown3 hfin
          obtain ⟨B, hBB⟩ : ∃ B, Z.heap.size = B := ⟨_, rfl⟩
          rw [hBB] at x3 fz hB1 hfin
          obtain ⟨sb, hsb⟩ : ∃ sb, w2.heap.size = sb := ⟨_, rfl⟩
          have HB3 : Hid (Below w.heap.size w w3) := HBZ.out.trans (hb3.mono HBZ.out.size)
          have xs : w3.cell? ⟨sb, 0, none⟩ = some (.slice va vl vc) := by rw [← hsb]; exact keepC xs0 hb3
          have OWQ : Hid (w3.ownsRow lq 25 1 (.slice (some ⟨bq, 0, none⟩) cl cl) cl cs) := hown3
          have sB : B < w3.heap.size := World.block_lt_of_cell? _ _ x3
          have hwB : w.heap.size ≤ B := by rw [← hBB]; exact HBZ.out.size
          have hsB : sb < B := by omega
          have sq : bq < w3.heap.size := (World.ownsRow.lt OWQ.out bq rfl).2
          have FF : Hid (∀ (w9 : World) (v9 : Value), OffX (fun x => x = bq) w3 w9 → w9.ownsRow lq 25 1 v9 (cl + 1) (cs ++ [.slice va vl vc]) → SlA (some ⟨B, 0, none⟩) n n ∧ PtsSt X (w9.setCell ⟨B, q * 5 + 3, none⟩ v9) (some ⟨B, 0, none⟩) M) := fun w9 v9 h1 h2 => by
            refine hfin w9 v9 va vc h1 (by rw [HVL.out]; exact h2) ?_
            have o1 : OffX (fun x => x < w1.heap.size ∨ w2.heap.size ≤ x) w2 w9 := ((OffX.of_below BZ.out).trans (OffX.mk (Nat.le_trans (Nat.le_refl _) hb3.size) (fun b hb _ => hb3.block b (by omega)))).trans (h1.mono (fun x (hx : x = bq) => Or.inr (by omega)))
            exact St.less (St.off SENT.out o1) (fun x hx => by
              have hw1 := HB1.out.size
              rcases hx with hx | hx
              · exact Or.inl (by omega)
              · exact Or.inr (by omega))
          rw [hBB, hsb]
          clear hBB hsb hb3 hc hown3 hfin DP OC SENT HVL xs0
          go_wp2_with fail
          refine wp_region_noPanic ?_
          refine wp_region_X (S := fun w'' => w''.cell? ⟨B, q * 5 + 3, none⟩ = some (.slice (some ⟨bq, 0, none⟩) cl cl) ∧ w''.cell? ⟨sb, 0, none⟩ = some (.slice va vl vc)) 12 (by kernel_rfl) (by (try dsimp only); go_keep) (fun hHeld => ?_)
          refine wpAnyX_take (i := 0) (v := ?_) rfl (by kernel_rfl) (by kernel_rfl) (by kernel_rfl) (by kernel_rfl) (fun _ _ _ h => h) (Or.inl ⟨by rfl, ?_⟩) (by assumption) ?_
          rotate_left
          · intro w hSw; (try dsimp only at hSw); first | (go_simp; done) | (go_simp; with_reducible rfl)
          simp [Act.put]
          refine wpAnyX_take (i := 1) (v := ?_) rfl (by kernel_rfl) (by kernel_rfl) (by kernel_rfl) (by kernel_rfl) (fun _ _ _ h => h) (Or.inl ⟨by rfl, ?_⟩) (by assumption) ?_
          rotate_left
          · intro w hSw; (try dsimp only at hSw); first | (go_simp; done) | (go_simp; with_reducible rfl)
          simp [Act.put]
          refine wpAnyX_take (i := 2) (v := ?_) rfl (by kernel_rfl) (by kernel_rfl) (by kernel_rfl) (by kernel_rfl) (fun _ _ _ h => h) (Or.inl ⟨by rfl, ?_⟩) (by assumption) ?_
          rotate_left
          · intro w hSw; (try dsimp only at hSw); first | (go_simp; done) | (go_simp; with_reducible rfl)
          simp [Act.put]
          refine wpAnyX_take (i := 3) (v := ?_) rfl (by kernel_rfl) (by kernel_rfl) (by kernel_rfl) (by kernel_rfl) (fun _ _ _ h => h) (Or.inl ⟨by rfl, ?_⟩) (by assumption) ?_
          rotate_left
          · intro w hSw; (try dsimp only at hSw); first | (go_simp; done) | (go_simp; with_reducible rfl)
          simp [Act.put]
          refine wpAnyX_take (i := 4) (v := ?_) rfl (by kernel_rfl) (by kernel_rfl) (by kernel_rfl) (by kernel_rfl) (fun _ _ _ h => h) (Or.inl ⟨by rfl, ?_⟩) (by assumption) ?_
          rotate_left
          · intro w hSw; (try dsimp only at hSw); first | (go_simp; done) | (go_simp; with_reducible rfl)
          simp [Act.put]
          refine wpAnyX_take (i := 5) (v := ?_) rfl (by kernel_rfl) (by kernel_rfl) (by kernel_rfl) (by kernel_rfl) (fun _ _ _ h => h) (Or.inl ⟨by rfl, ?_⟩) (by assumption) ?_
          rotate_left
          · intro w hSw; (try dsimp only at hSw); first | (go_simp; done) | (go_simp; with_reducible rfl)
          simp [Act.put]
          refine wpAnyX_take (i := 6) (v := ?_) rfl (by kernel_rfl) (by kernel_rfl) (by kernel_rfl) (by kernel_rfl) (fun _ _ _ h => h) (Or.inl ⟨by rfl, ?_⟩) (by assumption) ?_
          rotate_left
          · intro w hSw; (try dsimp only at hSw); first | (go_simp; done) | (go_simp; with_reducible rfl)
          simp [Act.put]
          refine wpAnyX_take (i := 7) (v := ?_) rfl (by kernel_rfl) (by kernel_rfl) (by kernel_rfl) (by kernel_rfl) (fun _ _ _ h => h) (Or.inl ⟨by rfl, ?_⟩) (by assumption) ?_
          rotate_left
          · intro w hSw; (try dsimp only at hSw); first | (go_simp; done) | (go_simp; with_reducible rfl)
          simp [Act.put]
          refine wpAnyX_one (i := 8) (by kernel_rfl) rfl (fun K hK => ?_)
          go_simp
          refine hK.out _ _ ?_ (fun hHeld => ?_)
          · exact ⟨keepC x3 ((Below.refl w3.heap.size w3).drew.alloc (Nat.le_refl _) (.cells #[.slice va vl vc] 25)), keepC xs ((Below.refl w3.heap.size w3).drew.alloc (Nat.le_refl _) (.cells #[.slice va vl vc] 25))⟩
          clear hK K hHeld
          try simp [Act.put]
          refine wpAnyX_one (i := 9) (by kernel_rfl) rfl (fun K hK => ?_)
          refine step_append_all rfl (.tmp 61) (.tmp 63) 41 rfl lq 25 i0 (.agg #[.slice none 0 0]) 1 24 Try.underlying41 hi0 hz0 hz1 hz2 rfl (by decide) (.slice (some ⟨bq, 0, none⟩) cl cl) cl cs rfl (World.ownsRow.alloc (World.ownsRow.drew OWQ.out) _) (some ⟨w3.heap.size, 0, none⟩) 1 1 [.slice va vl vc] (fun h => by cases h) rfl rfl (fun ad e j u hj => by cases e; exact news1 (alloc_cell w3.drew _ _ 0 rfl) j u hj) (by intro u hu; simp at hu; subst hu; rfl) hb1 hb2 (((Below.refl w3.heap.size w3).drew.alloc (Nat.le_refl _) (.cells #[.slice va vl vc] 25)) |> fun h => Nat.le_trans hlw h.size) ?_
          intro v9 w9 own9 grow9
          have t3 : w9.cell? ⟨B, q * 5 + 3, none⟩ = some (.slice (some ⟨bq, 0, none⟩) cl cl) := grow9.cell (a := ⟨B, q * 5 + 3, none⟩) (keepC x3 ((Below.refl w3.heap.size w3).drew.alloc (Nat.le_refl _) (.cells #[.slice va vl vc] 25))) (by intro e; have e2 : B = bq := Option.some.inj e; omega)
          have t0 : w9.cell? ⟨sb, 0, none⟩ = some (.slice va vl vc) := grow9.cell (a := ⟨sb, 0, none⟩) (keepC xs ((Below.refl w3.heap.size w3).drew.alloc (Nat.le_refl _) (.cells #[.slice va vl vc] 25))) (by intro e; have e2 : sb = bq := Option.some.inj e; omega)
          have f9 : w9.frozen? ⟨B, q * 5 + 3, none⟩ = false := (World.frozen?_of_block (grow9.block B (by show B < (w3.drew.alloc _).heap.size; simp; omega) (by intro e; have e2 : B = bq := Option.some.inj e; omega))).trans (((Below.refl w3.heap.size w3).drew.alloc (Nat.le_refl _) (.cells #[.slice va vl vc] 25)).frozen (show (⟨B, q * 5 + 3, none⟩ : Addr).block < w3.heap.size from sB) |>.trans (fz _))
          have o9 : OffX (fun x => x = bq) w3 w9 := (OffX.of_below ((Below.refl w3.heap.size w3).drew.alloc (Nat.le_refl _) (.cells #[.slice va vl vc] 25))).trans (OffX.grown grow9 (fun b hb => by cases hb; rfl))
          have HB9 : Hid (Below w.heap.size w w9) := (HB3.out.trans (((Below.refl w3.heap.size w3).drew.alloc (Nat.le_refl _) (.cells #[.slice va vl vc] 25)).mono HB3.out.size)).grown grow9 (by show w.heap.size ≤ (w3.drew.alloc _).heap.size; simp; have := HB3.out.size; omega) (fun kk hk => by cases hk; show w.heap.size ≤ bq; omega)
          have OW9 : Hid (w9.ownsRow lq 25 1 v9 (cl + 1) (cs ++ [.slice va vl vc])) := own9
          have FF9 : Hid _ := FF.out w9 v9 o9 own9
          refine hK.out _ _ ?_ (fun hHeld => ?_)
          · exact ⟨t3, t0⟩
          obtain ⟨va9, vc9, hv9⟩ : ∃ a c, v9 = .slice a (cl + 1) c := by
            rcases OW9.out.2 with ⟨e, e0⟩ | ⟨g5, cap5, cur5, e, _⟩
            · exact ⟨none, 0, by rw [e, e0]⟩
            · exact ⟨_, cap5, e⟩
          subst hv9
          clear hK K hHeld own9 grow9 OW9 o9 FF
          try simp [Act.put]
          refine wpAnyX_one (i := 10) (by kernel_rfl) rfl (fun K hK => ?_)
          go_simp
          refine hK.out _ _ ?_ (fun hHeld => ?_)
          · (try dsimp only)
            exact ⟨t3, t0⟩
          clear hK K
          try simp [Act.put]
          refine wpAnyX_take (i := 11) (v := ?_) rfl (by kernel_rfl) (by kernel_rfl) (by kernel_rfl) (by kernel_rfl) (fun _ _ _ h => h) (Or.inl ⟨by rfl, ?_⟩) (by assumption) ?_
          rotate_left
          · intro w hSw; (try dsimp only at hSw); first | (go_simp; done) | (go_simp; with_reducible rfl)
          simp [Act.put]
          refine wpAnyX_last (by kernel_rfl) rfl (fun K hK => ?_)
          go_simp
          refine hK.out _ _ ?_
          clear hK K
          try simp [Act.put]
          refine wpAnyX_done (by kernel_rfl) ?_ _
          refine NoPanic.normal ?_
          have B9 : Hid (Below w.heap.size w (w9.setCell ⟨B, q * 5 + 3, none⟩ (.slice va9 (cl + 1) vc9))) := HB9.out.setCell (by show w.heap.size ≤ B; omega) _
          clear t3 t0 f9
          go_wp2_with fail
          exact bodyPost_ret (v := .tuple #[.slice (some ⟨B, 0, none⟩) n n, .int .i64 0]) (by simp [results, Try.results7, go_sem]) rfl (by first | exact ⟨_, n, by rw [ML.out], B9.out, (by rw [ML.out]; exact FF9.out.1), FF9.out.2⟩ | exact ⟨_, ⟨n, by rw [ML.out]⟩, B9.out, (by rw [ML.out]; exact FF9.out.1), FF9.out.2⟩)
    · rw [if_pos hE, if_neg hE]
      have y1 : decide (gcheckE G = 0) = false := decide_eq_false hE
      have y2 : (gcheckE G == 0) = false := by simp [hE]
      clear hL hB hsl hF R hH eP eL eM hG hGB
      generalize gcheckE G = E at *
      generalize G.length = gl at *
      generalize (pt L q).cm.length = cl at *
      generalize (pt L q).s = xss at *
      generalize L.length = n at *
      generalize resF G = cF at *
      go_enter Try.func7, Try.ntmps7
      go_wp2_with fail
      refine Calls.mono (DH.out _) ?_
      rintro e w1 ⟨rfl, hb1⟩
      have HB1 : Hid (Below w.heap.size w w1) := (one_belowS _ _).trans (hb1.mono (by simp))
      have r1 : w1.cell? ⟨w.heap.size, 0, none⟩ = some (.slice ga gl gc) := keepC (alloc_cell w #[.slice ga gl gc] 25 0 rfl) hb1
      have s1 : w.heap.size < w1.heap.size := World.block_lt_of_cell? _ _ r1
      clear hb1 DH
      go_wp2_with fail
      refine Calls.mono (DG.out _ HB1.out) ?_
      rintro e w2 ⟨v2, rfl, hb2', Kc, hown⟩
      obtain ⟨va, vc, rfl, hst⟩ := ownC_st hown
      have SENT : Hid _ := hst
      have HB2 : Hid (Below w.heap.size w w2) := HB1.out.trans (hb2'.mono HB1.out.size)
      have e2 := keepC c2 HB2.out
      have e3 := keepC d3 HB2.out
      have e4 := keepC d4 HB2.out
      have sb2 : b < w2.heap.size := World.block_lt_of_cell? _ _ e2
      obtain ⟨vl, hvl⟩ : ∃ z, cF.length = z := ⟨_, rfl⟩
      have HVL : Hid (cF.length = vl) := hvl
      rw [hvl]
      clear hvl hb2' hown hst DG r1
      go_wp2_with fail
      exact bodyPost_ret (v := .tuple #[.slice none 0 0, .int .i64 E]) (by simp [results, Try.results7, go_sem]) rfl ⟨none, 0, rfl, HB2.out.alloc HB2.out.size _, sl_nil, pts_nilS X _⟩
  · have eP : pushE L Fr k o t G = heldPE L Fr k o t := by unfold pushE; rw [if_pos hH]
    rw [eP, if_neg hH]
    have y1 : decide (heldPE L Fr k o t = 0) = false := decide_eq_false hH
    have y2 : (heldPE L Fr k o t == 0) = false := by simp [hH]
    clear hL hB hsl eP DG
    generalize heldPE L Fr k o t = E at *
    generalize L.length = n at *
    generalize G.length = gl at *
    go_enter Try.func7, Try.ntmps7
    go_wp2_with fail
    refine Calls.mono (DH.out _) ?_
    rintro e w1 ⟨rfl, hb1⟩
    have HB1 : Hid (Below w.heap.size w w1) := (one_belowS _ _).trans (hb1.mono (by simp))
    clear hb1 DH
    go_wp2_with fail
    exact bodyPost_ret (v := .tuple #[.slice none 0 0, .int .i64 E]) (by simp [results, Try.results7, go_sem]) rfl ⟨none, 0, rfl, HB1.out, sl_nil, pts_nilS X _⟩
end Go.Proofs.Ytgjfmepbphfjoaa
