/-
  The reference's PortPushed.
-/
import Derived.Test.YtgjfmepbphfjoaaUPg
import Derived.Test.YtgjfmepbphfjoaaUCq
namespace Go.Proofs.Ytgjfmepbphfjoaa
open Go.RowKit Go.ChangeShapes Go.WideShapes
set_option linter.unusedVariables false

/-- What keeps a graph from being pushed. -/
def pushE2 (L : List Pt) (k : Int) (G : List Cl) : Int := if gcheckE G ≠ 0 then gcheckE G else if (mateP L k).s = true then 5 else if (mateP L k).cm.length = 16 then 1 else 0
theorem push_then (L : List Pt) (Fr k o t : Int) (G : List Cl) : pushE L Fr k o t G = thenE (heldPE L Fr k o t) (pushE2 L k G) := rfl

set_option maxRecDepth 100000 in
set_option maxHeartbeats 8000000 in
theorem push1_any (w0 w : World) (h0 : w0.heap.size ≤ w.heap.size) (gb kb : Nat) (L : List Pt) (K : Nat → Value) (k : Nat) (Fr : Int) (R : RightP L Fr) (ga : Option Addr) (gc : Nat) (G : List Cl) (hGN : G.length ≤ 9223372036854775807) (hGB : BigC G) (hG : ClsAt w ga G) (hk : k < L.length) (hgb : w.cell? ⟨gb, 0, none⟩ = some (.slice ga G.length gc)) (hkb : w.cell? ⟨kb, 0, none⟩ = some (.int .i64 (k : Int))) (hgr : ∀ i, i < L.length → GrsV w0 (K i) (pt L i).cm) (hw : Below w0.heap.size w0 w) :
    ∀ (W : World) (v : Value), Below w.heap.size w W → W.ownsRow w.heap.size 47 5 v L.length (pcells L K) → Calls Try.prog 32 (#[v] ++ #[.pointer (some ⟨gb, 0, none⟩), .pointer (some ⟨kb, 0, none⟩)]) W fun e w' => e = .returned (.int .i64 (pushE2 L k G)) ∧ Below w0.heap.size W w' ∧ ((pushE2 L k G) ≠ 0 → Below W.heap.size W w') ∧ ((pushE2 L k G) = 0 → True ∧ ∃ K', ∀ w'', BoxEq w0.heap.size w.heap.size w' w'' → w''.ownsRow w.heap.size 47 5 v (pushL L k G).length (pcells (pushL L k G) K') ∧ ∀ i, i < (pushL L k G).length → GrsV w'' (K' i) (pt (pushL L k G) i).cm) := by
  intro W v hb hrow
  have hN := R.few
  obtain ⟨g, cap, rfl, hg1, hg2⟩ := row_some hrow (by omega)
  obtain ⟨q, hq, hqn, hqk, _⟩ := R.mate hk
  have hk2 : (k : Int) < (L.length : Int) := by omega
  have hq2 : (q : Int) < (L.length : Int) := by omega
  have eM : mateP L k = pt L q := by unfold mateP; rw [Int.toNat_natCast, hq, Int.toNat_natCast]
  have eL : pushL L k G = L.set q { pt L q with cm := (pt L q).cm ++ [copyF G] } := by unfold pushL; rw [eM, Int.toNat_natCast, hq, Int.toNat_natCast]
  have ML : (pushL L k G).length = L.length := by rw [eL, List.length_set]
  have kc := keepC hkb hb
  have gcl := keepC hgb hb
  have l1 : kb < w.heap.size := World.block_lt_of_cell? _ _ hkb
  have l2 : gb < w.heap.size := World.block_lt_of_cell? _ _ hgb
  have z0 := row_cells hrow rfl hk (show 2 < 5 by omega)
  have z1 := row_cells hrow rfl hqn (show 3 < 5 by omega)
  have z2 := row_cells hrow rfl hqn (show 4 < 5 by omega)
  obtain ⟨ca, cc, hKq, hsl, hGq⟩ := hgr q hqn
  have y0 : W.cell? ⟨g, k * 5 + 2, none⟩ = some (.int .i64 (q : Int)) := z0.trans (by rw [← hq]; rfl)
  have y1 : W.cell? ⟨g, q * 5 + 3, none⟩ = some (.slice ca (pt L q).cm.length cc) := z1.trans (by rw [← hKq]; rfl)
  have y2 : W.cell? ⟨g, q * 5 + 4, none⟩ = some (.bool (pt L q).s) := z2
  have f3 := hrow.frozenAt (q * 5 + 3)
  have DC : Hid _ := rcopied_any ga gc G W hGN hGB (hG.below hb)
  have HB : Hid (Below w.heap.size w W) := hb
  have HW0 : Hid (Below w0.heap.size w0 W) := hw.trans (hb.mono h0)
  unfold pushE2
  rw [eM]
  clear hkb hgb z0 z1 z2 hq
  by_cases hE : gcheckE G = 0
  · rw [if_neg (not_not_intro hE)]
    rw [hE] at DC
    have eR : resF G = copyF G := if_pos hE
    rw [eR] at DC
    cases hs : (pt L q).s with
    | true =>
      rw [if_pos rfl]
      rw [hs] at y2
      clear hrow hgr eL ML hsl hGq eR hE
      generalize G.length = gl at *
      generalize (pt L q).cm.length = cl at *
      generalize L.length = n at *
      go_enter Try.func32, Try.ntmps32
      go_wp2_with fail
      refine Calls.mono DC.out ?_
      rintro e w1 ⟨v1, rfl, hb1, Kc, hown⟩
      obtain ⟨va, vc, rfl, hcl⟩ := hown.cls
      have HB1 : Hid (Below W.heap.size W w1) := hb1
      have x0 := keepC y0 hb1
      have x1 := keepC y1 hb1
      have x2 := keepC y2 hb1
      have xk := keepC kc hb1
      have sg : g < w1.heap.size := World.block_lt_of_cell? _ _ x0
      have sk : kb < w1.heap.size := World.block_lt_of_cell? _ _ xk
      clear hb1 hown hcl y0 y1 y2 kc gcl f3
      generalize (copyF G).length = vl at *
      go_wp2_with fail
      go_ret
      exact ⟨rfl, ((one_belowS w1 _).mono (by have := HB1.out.size; have := HB.out.size; omega) |> fun h => (HB1.out.mono (by have := HB.out.size; omega)).trans h), fun _ => HB1.out.trans ((one_belowS w1 _).mono HB1.out.size), fun h => by cases h⟩
    | false =>
      rw [if_neg (by decide)]
      rw [hs] at y2
      by_cases h16 : (pt L q).cm.length = 16
      · rw [if_pos h16]
        rw [h16] at y1
        clear hrow hgr eL ML hsl hGq eR hE h16
        generalize G.length = gl at *
        generalize L.length = n at *
        go_enter Try.func32, Try.ntmps32
        go_wp2_with fail
        refine Calls.mono DC.out ?_
        rintro e w1 ⟨v1, rfl, hb1, Kc, hown⟩
        obtain ⟨va, vc, rfl, hcl⟩ := hown.cls
        have HB1 : Hid (Below W.heap.size W w1) := hb1
        have x0 := keepC y0 hb1
        have x1 := keepC y1 hb1
        have x2 := keepC y2 hb1
        have xk := keepC kc hb1
        have sg : g < w1.heap.size := World.block_lt_of_cell? _ _ x0
        have sk : kb < w1.heap.size := World.block_lt_of_cell? _ _ xk
        clear hb1 hown hcl y0 y1 y2 kc gcl f3
        generalize (copyF G).length = vl at *
        go_wp2_with fail
        go_ret
        exact ⟨rfl, ((one_belowS w1 _).mono (by have := HB1.out.size; have := HB.out.size; omega) |> fun h => (HB1.out.mono (by have := HB.out.size; omega)).trans h), fun _ => HB1.out.trans ((one_belowS w1 _).mono HB1.out.size), fun h => by cases h⟩
      · rw [if_neg h16]
        obtain ⟨i0, hi0, hz0, hz1, hz2⟩ := info_parts infoGraph
        have hcl16 : (pt L q).cm.length ≤ 16 := (portE_zero.1 (R.ok q hqn)).2.2.2.2.1.1
        have h16a : decide (((pt L q).cm.length : Int) = 16) = false := decide_eq_false (by omega)
        have h16b : (((pt L q).cm.length : Int) == 16) = false := by simp; omega
        have JG : Hid (∀ i, i < (pt L q).cm.length → GrV w0 (jOf w0 ca i) (gr (pt L q).cm i)) := j_grs hGq
        have JS : Hid (∀ W', Below w0.heap.size w0 W' → ∀ ad, ca = some ad → ∀ j u, (grow (pt L q).cm.length (jOf w0 ca))[j]? = some u → W'.cell? (ad.add j) = some u) := fun W' hW' ad e j u hj => by
          subst e
          have h1 := j_src hGq j u hj
          exact (hW'.cell (World.block_lt_of_cell? _ _ h1)).trans h1
        have JN : Hid (ca = none → (pt L q).cm.length = 0 ∧ cc = 0) := fun e => by
          have h1 := hsl.1 e
          have h2 := hsl.2.1
          omega
        have JL : Hid ((grow (pt L q).cm.length (jOf w0 ca)).length = (pt L q).cm.length * 1) := by show _ = _; rw [grow_len, Nat.mul_one]
        have JO : Hid (∀ u ∈ grow (pt L q).cm.length (jOf w0 ca), u.oneCell' = true) := grow_one (j_grs hGq)
        -- what comes of it
        have FIN : Hid (∀ (w1 w9 : World) (v9 va' : Value) (Kc : Nat → Value), Below W.heap.size W w1 → OwnC W.heap.size (copyF G) Kc va' w1 → Below w1.heap.size w1 w9 → w9.ownsRow w1.heap.size 25 1 v9 ((pt L q).cm.length + 1) (grow (pt L q).cm.length (jOf w0 ca) ++ [va']) → ∃ K', ∀ w'', BoxEq w0.heap.size w.heap.size (w9.setCell ⟨g, q * 5 + 3, none⟩ v9) w'' → w''.ownsRow w.heap.size 47 5 (.slice (some ⟨g, 0, none⟩) L.length cap) (pushL L k G).length (pcells (pushL L k G) K') ∧ ∀ i, i < (pushL L k G).length → GrsV w'' (K' i) (pt (pushL L k G) i).cm) := fun w1 w9 v9 va' Kc hb1 hown hb9 hrow9 => by
          have hs1 := hb1.size
          have hs9 := hb9.size
          have hb2 : Below W.heap.size W w9 := hb1.trans (hb9.mono hb1.size)
          have hrw : w9.ownsRow w.heap.size 47 5 (.slice (some ⟨g, 0, none⟩) L.length cap) L.length (pcells L K) := owns_block hrow (fun b hbb => hb2.block b (hrow.lt b hbb).2)
          have a1 := row_put hrw (k := q) (f := 3) (u := v9) (v := v9) (x := { pt L q with cm := (pt L q).cm ++ [copyF G] }) hqn (by omega) rfl
          refine ⟨_, fun w'' hbx => ⟨by rw [ML, eL]; exact row_box a1 (Nat.le_refl _) hbx, fun i hi => ?_⟩⟩
          rw [ML] at hi
          have hsW := HB.out.size
          have hbS : Below w0.heap.size w0 w'' := below_box ((HW0.out.trans (hb2.mono (by omega))).setCell (by show w0.heap.size ≤ g; omega) _) hbx
          rw [eL, pt_set hi]
          by_cases e : i = q
          · rw [if_pos e, if_pos e.symm]
            dsimp only
            have hr9 : w''.ownsRow w1.heap.size 25 1 v9 ((pt L q).cm.length + 1) (grow (pt L q).cm.length (jOf w0 ca) ++ [va']) := row_box (owns_block hrow9 (fun b hbb => Below.heap_setCell _ _ _ _ (by have := (hrow9.lt b hbb).1; show b ≠ g; omega))) (by omega) hbx
            rw [grow_snoc] at hr9
            have hlen : ((pt L q).cm ++ [copyF G]).length = (pt L q).cm.length + 1 := by simp
            refine grs_own (B := w1.heap.size) (J := fun i => if i = (pt L q).cm.length then va' else jOf w0 ca i) (by rw [hlen]; exact hr9) (fun j hj => ?_)
            rw [hlen] at hj
            by_cases e2 : j < (pt L q).cm.length
            · rw [if_neg (by omega), gr_left e2]
              exact (JG.out j e2).below hbS
            · have e3 : j = (pt L q).cm.length := by omega
              subst e3
              rw [if_pos rfl, gr_last]
              have hoc := OwnC.kept (w' := w'') hown (fun b hB hb' _ => (hbx.block b (by omega)).trans ((Below.heap_setCell _ _ _ _ (by show b ≠ g; omega)).trans (hb9.block b hb')))
              obtain ⟨xa, xc, ex, hx⟩ := hoc.cls
              exact ⟨xa, xc, ex, hx⟩
          · rw [if_neg e, if_neg (fun h => e h.symm)]
            exact (hgr i hi).below hbS
        clear hgr eL hsl hGq eR hE h16 hKq hrow ML
        generalize pushL L k G = M at *
        generalize G.length = gl at *
        obtain ⟨cl, hcl0⟩ : ∃ z, (pt L q).cm.length = z := ⟨_, rfl⟩
        rw [hcl0] at hcl16 h16a h16b JG JS JN JL JO FIN y1
        clear hcl0
        generalize grow cl (jOf w0 ca) = cs at *
        obtain ⟨n, hn⟩ : ∃ z, L.length = z := ⟨_, rfl⟩
        rw [hn] at hk2 hq2 hN FIN hk hqn ⊢
        clear hn
        have hb1a : 0 + cl ≤ maxLen := by unfold maxLen; omega
        have hb2a : (0 + cl) * 24 ≤ 140737488355328 := by omega
        have hb3a : 0 + cl + 1 ≤ maxLen := by unfold maxLen; omega
        have hb4a : (0 + cl + 1) * 24 ≤ 140737488355328 := by omega
        go_enter Try.func32, Try.ntmps32
        go_wp2_with fail
        refine Calls.mono DC.out ?_
        rintro e w1 ⟨v1, rfl, hb1, Kc, hown⟩
        obtain ⟨va, vc, hv1, hclv⟩ := hown.cls
        rw [hv1] at hown ⊢
        have OWN1 : Hid (OwnC W.heap.size (copyF G) Kc (.slice va (copyF G).length vc) w1) := hown
        have HB1 : Hid (Below W.heap.size W w1) := hb1
        have x0 := keepC y0 hb1
        have x1 := keepC y1 hb1
        have x2 := keepC y2 hb1
        have xk := keepC kc hb1
        have fx : w1.frozen? ⟨g, q * 5 + 3, none⟩ = false := (hb1.frozen (by exact hg2)).trans f3
        have sg : g < w1.heap.size := World.block_lt_of_cell? _ _ x0
        have sk : kb < w1.heap.size := World.block_lt_of_cell? _ _ xk
        clear hb1 hown hclv y0 y1 y2 kc gcl f3 hv1
        have FIN1 : Hid (∀ (w9 : World) (v9 : Value), Below w1.heap.size w1 w9 → w9.ownsRow w1.heap.size 25 1 v9 (cl + 1) (cs ++ [.slice va (copyF G).length vc]) → _) := fun w9 v9 h1 h2 => FIN.out w1 w9 v9 (.slice va (copyF G).length vc) Kc HB1.out OWN1.out h1 h2
        have JS1 : Hid (∀ W', Below w1.heap.size w1 W' → ∀ ad, ca = some ad → ∀ j u, cs[j]? = some u → W'.cell? (ad.add j) = some u) := fun W' hW' => JS.out W' (HW0.out.trans ((HB1.out.trans (hW'.mono HB1.out.size)).mono HW0.out.size))
        clear FIN OWN1 JS
        generalize (copyF G).length = vl at *
        go_wp2_with fail
        obtain ⟨X, hX⟩ : ∃ X, w1.alloc (.cells #[.slice va vl vc] 25) = X := ⟨_, rfl⟩
        have u0 : X.cell? ⟨w1.heap.size, 0, none⟩ = some (.slice va vl vc) := by rw [← hX]; exact alloc_cell w1 _ _ 0 rfl
        have u1 : X.cell? ⟨g, q * 5 + 3, none⟩ = some (.slice ca cl cc) := by rw [← hX]; exact keepC x1 (one_belowS _ _)
        have fX : X.frozen? ⟨g, q * 5 + 3, none⟩ = false := by rw [← hX]; exact ((one_belowS w1 _).frozen (by exact sg)).trans fx
        have BX : Hid (Below w1.heap.size w1 X) := by rw [← hX]; exact one_belowS _ _
        have sX : w1.heap.size < X.heap.size := World.block_lt_of_cell? _ _ u0
        rw [hX]
        clear hX x0 x1 x2 xk fx
        refine wp_region_noPanic ?_
        refine wp_region_X (S := fun w'' => w''.cell? ⟨g, q * 5 + 3, none⟩ = some (.slice ca cl cc) ∧ w''.cell? ⟨w1.heap.size, 0, none⟩ = some (.slice va vl vc)) 12 (by kernel_rfl) (by (try dsimp only); go_keep) (fun hHeld => ?_)
        refine wpAnyX_take (i := 0) (v := ?_) rfl (by kernel_rfl) (by kernel_rfl) (by kernel_rfl) (by kernel_rfl) (fun _ _ _ h => h) (Or.inl ⟨by rfl, ?_⟩) (by assumption) ?_
        rotate_left
        · intro w hSw; (try dsimp only at hSw); first | (go_simp; done) | (go_simp; with_reducible rfl)
        simp [Act.put]
        refine wpAnyX_take (i := 2) (v := ?_) rfl (by kernel_rfl) (by kernel_rfl) (by kernel_rfl) (by kernel_rfl) (fun _ _ _ h => h) (Or.inl ⟨by rfl, ?_⟩) (by assumption) ?_
        rotate_left
        · intro w hSw; (try dsimp only at hSw); first | (go_simp; done) | (go_simp; with_reducible rfl)
        simp [Act.put]
        refine wpAnyX_take (i := 3) (v := ?_) rfl (by kernel_rfl) (by kernel_rfl) (by kernel_rfl) (by kernel_rfl) (fun _ _ _ h => h) (Or.inl ⟨by rfl, ?_⟩) (by assumption) ?_
        rotate_left
        · intro w hSw; (try dsimp only at hSw); first | (go_simp; done) | (go_simp; with_reducible rfl)
        simp [Act.put]
        refine wpAnyX_take (i := 4) (v := ?_) rfl (by kernel_rfl) (by kernel_rfl) (by kernel_rfl) (by kernel_rfl) (fun _ _ _ h => h) (Or.inl ⟨by rfl, ?_⟩) (by assumption) ?_
        rotate_left
        · intro w hSw; (try dsimp only at hSw); first | (go_simp; done) | (go_simp; with_reducible rfl)
        simp [Act.put]
        refine wpAnyX_take (i := 5) (v := ?_) rfl (by kernel_rfl) (by kernel_rfl) (by kernel_rfl) (by kernel_rfl) (fun _ _ _ h => h) (Or.inl ⟨by rfl, ?_⟩) (by assumption) ?_
        rotate_left
        · intro w hSw; (try dsimp only at hSw); first | (go_simp; done) | (go_simp; with_reducible rfl)
        simp [Act.put]
        refine wpAnyX_take (i := 7) (v := ?_) rfl (by kernel_rfl) (by kernel_rfl) (by kernel_rfl) (by kernel_rfl) (fun _ _ _ h => h) (Or.inl ⟨by rfl, ?_⟩) (by assumption) ?_
        rotate_left
        · intro w hSw; (try dsimp only at hSw); first | (go_simp; done) | (go_simp; with_reducible rfl)
        simp [Act.put]
        refine wpAnyX_two (i := 1) (j := 8) (by kernel_rfl) rfl rfl (fun K hK => ?_) (fun K hK => ?_)
        · go_simp
          refine hK.out _ _ ?_ (fun hHeld => ?_)
          · exact ⟨keepC u1 (((Below.refl X.heap.size X).drew.alloc (Nat.le_refl _) (.cells #[] 25))), keepC u0 (((Below.refl X.heap.size X).drew.alloc (Nat.le_refl _) (.cells #[] 25)))⟩
          clear hK K hHeld
          try simp [Act.put]
          refine wpAnyX_two (i := 6) (j := 8) (by kernel_rfl) rfl rfl (fun K hK => ?_) (fun K hK => ?_)
          · refine step_append_all rfl (.tmp 37) (.tmp 41) 41 rfl X.heap.size 25 i0 (.agg #[.slice none 0 0]) 1 24 Try.underlying41 hi0 hz0 hz1 hz2 rfl (by decide) (.slice (some ⟨X.heap.size, 0, none⟩) 0 0) 0 [] rfl (own_g1 X.drew) ca cl cc cs JN.out rfl JL.out (JS1.out _ (BX.out.trans ((((Below.refl X.heap.size X).drew.alloc (Nat.le_refl _) (.cells #[] 25))).mono BX.out.size))) JO.out hb1a hb2a (((Below.refl X.heap.size X).drew.alloc (Nat.le_refl _) (.cells #[] 25))).size ?_
            intro v6 w6 own6 grow6
            have HB6 : Hid (Below X.heap.size X w6) := (((Below.refl X.heap.size X).drew.alloc (Nat.le_refl _) (.cells #[] 25))).grown grow6 (((Below.refl X.heap.size X).drew.alloc (Nat.le_refl _) (.cells #[] 25))).size (fun kk hk => by cases hk; first | exact Nat.le_refl _ | exact Nat.le_succ _)
            have OW6 : Hid (w6.ownsRow X.heap.size 25 1 v6 (0 + cl) ([] ++ cs)) := own6
            refine hK.out _ _ ?_ (fun hHeld => ?_)
            · exact ⟨keepC u1 HB6.out, keepC u0 HB6.out⟩
            clear hK K hHeld own6 grow6
            try simp [Act.put]
            refine wpAnyX_one (i := 8) (by kernel_rfl) rfl (fun K hK => ?_)
            go_simp
            refine hK.out _ _ ?_ (fun hHeld => ?_)
            · exact ⟨keepC u1 (HB6.out.alloc HB6.out.size _), keepC u0 (HB6.out.alloc HB6.out.size _)⟩
            clear hK K hHeld
            try simp [Act.put]
            refine wpAnyX_one (i := 9) (by kernel_rfl) rfl (fun K hK => ?_)
            refine step_append_all rfl (.tmp 42) (.tmp 44) 41 rfl X.heap.size 25 i0 (.agg #[.slice none 0 0]) 1 24 Try.underlying41 hi0 hz0 hz1 hz2 rfl (by decide) v6 (0 + cl) ([] ++ cs) rfl (OW6.out.alloc _) (some ⟨w6.heap.size, 0, none⟩) 1 1 [.slice va vl vc] (fun h => by cases h) rfl rfl (fun ad e j u hj => by cases e; exact news1 (alloc_cell w6 _ _ 0 rfl) j u hj) (by intro u hu; simp at hu; subst hu; rfl) hb3a hb4a (HB6.out.alloc HB6.out.size (.cells #[.slice va vl vc] 25)).size ?_
            intro v9 w9 own9 grow9
            have HB9 : Hid (Below X.heap.size X w9) := (HB6.out.alloc HB6.out.size (.cells #[.slice va vl vc] 25)).grown grow9 (HB6.out.alloc HB6.out.size (.cells #[.slice va vl vc] 25)).size (fun kk hk => ((OW6.out.lt kk hk).1))
            refine hK.out _ _ ?_ (fun hHeld => ?_)
            · exact ⟨keepC u1 HB9.out, keepC u0 HB9.out⟩
            have OW9 : Hid (w9.ownsRow w1.heap.size 25 1 v9 (cl + 1) (cs ++ [.slice va vl vc])) := by
              have h := own9
              rw [List.nil_append, Nat.zero_add] at h
              exact ownsRow_baseL h (by omega)
            have t3 := keepC u1 HB9.out
            have f9 : w9.frozen? ⟨g, q * 5 + 3, none⟩ = false := (HB9.out.frozen (by show g < X.heap.size; omega)).trans fX
            obtain ⟨va9, vc9, hv9⟩ : ∃ a c, v9 = .slice a (cl + 1) c := by
              rcases OW9.out.2 with ⟨e, e0⟩ | ⟨g5, cap5, cur5, e, _⟩
              · exact ⟨none, 0, by rw [e, e0]⟩
              · exact ⟨_, cap5, e⟩
            subst hv9
            clear hK K hHeld own9 grow9 OW6
            try simp [Act.put]
            refine wpAnyX_one (i := 10) (by kernel_rfl) rfl (fun K hK => ?_)
            go_simp
            refine hK.out _ _ ?_ (fun hHeld => ?_)
            · (try dsimp only)
              exact ⟨keepC u1 HB9.out, keepC u0 HB9.out⟩
            clear hK K
            try simp [Act.put]
            refine wpAnyX_take (i := 11) (v := ?_) rfl (by kernel_rfl) (by kernel_rfl) (by kernel_rfl) (by kernel_rfl) (fun _ _ _ h => h) (Or.inl ⟨by rfl, ?_⟩) (by assumption) ?_
            rotate_left
            · intro w hSw; (try dsimp only at hSw); first | (go_simp; done) | (go_simp; with_reducible rfl)
            simp [Act.put]
            refine wpAnyX_last (by kernel_rfl) rfl (fun K hK => ?_)
            go_simp
            refine hK.out _ _ ?_
            clear hK K
            try simp [Act.put]
            refine wpAnyX_done (by kernel_rfl) ?_ _
            refine NoPanic.normal ?_
            have B9 : Hid (Below w1.heap.size w1 w9) := BX.out.trans (HB9.out.mono BX.out.size)
            have FF9 : Hid _ := FIN1.out w9 _ B9.out OW9.out
            have BW : Hid (Below w0.heap.size W (w9.setCell ⟨g, q * 5 + 3, none⟩ (.slice va9 (cl + 1) vc9))) := ((HB1.out.mono (by have := HB.out.size; omega)).trans (B9.out.mono (by have := HB1.out.size; have := HB.out.size; omega))).setCell (by show w0.heap.size ≤ g; omega) _
            clear t3 f9 OW9 u0 u1 fX
            go_wp2_with fail
            go_ret
            first
            | exact ⟨rfl, BW.out, fun h => absurd rfl h, fun _ => ⟨trivial, FF9.out⟩⟩
            | exact ⟨rfl, BW.out, FF9.out⟩
          · go_simp
            refine hK.out _ _ ?_ (fun hHeld => ?_)
            · exact ⟨keepC u1 (((((Below.refl X.heap.size X).drew.alloc (Nat.le_refl _) (.cells #[] 25))).alloc (by show X.heap.size ≤ (X.drew.alloc _).heap.size; simp) (.cells #[.slice va vl vc] 25))), keepC u0 (((((Below.refl X.heap.size X).drew.alloc (Nat.le_refl _) (.cells #[] 25))).alloc (by show X.heap.size ≤ (X.drew.alloc _).heap.size; simp) (.cells #[.slice va vl vc] 25)))⟩
            clear hK K hHeld
            try simp [Act.put]
            refine wpAnyX_one (i := 6) (by kernel_rfl) rfl (fun K hK => ?_)
            refine step_append_all rfl (.tmp 37) (.tmp 41) 41 rfl X.heap.size 25 i0 (.agg #[.slice none 0 0]) 1 24 Try.underlying41 hi0 hz0 hz1 hz2 rfl (by decide) (.slice (some ⟨X.heap.size, 0, none⟩) 0 0) 0 [] rfl ((own_g1 X.drew).alloc (.cells #[.slice va vl vc] 25)) ca cl cc cs JN.out rfl JL.out (JS1.out _ (BX.out.trans ((((((Below.refl X.heap.size X).drew.alloc (Nat.le_refl _) (.cells #[] 25))).alloc (by show X.heap.size ≤ (X.drew.alloc _).heap.size; simp) (.cells #[.slice va vl vc] 25))).mono BX.out.size))) JO.out hb1a hb2a (((((Below.refl X.heap.size X).drew.alloc (Nat.le_refl _) (.cells #[] 25))).alloc (by show X.heap.size ≤ (X.drew.alloc _).heap.size; simp) (.cells #[.slice va vl vc] 25))).size ?_
            intro v6 w6 own6 grow6
            have HB6 : Hid (Below X.heap.size X w6) := (((((Below.refl X.heap.size X).drew.alloc (Nat.le_refl _) (.cells #[] 25))).alloc (by show X.heap.size ≤ (X.drew.alloc _).heap.size; simp) (.cells #[.slice va vl vc] 25))).grown grow6 (((((Below.refl X.heap.size X).drew.alloc (Nat.le_refl _) (.cells #[] 25))).alloc (by show X.heap.size ≤ (X.drew.alloc _).heap.size; simp) (.cells #[.slice va vl vc] 25))).size (fun kk hk => by cases hk; first | exact Nat.le_refl _ | exact Nat.le_succ _)
            have OW6 : Hid (w6.ownsRow X.heap.size 25 1 v6 (0 + cl) ([] ++ cs)) := own6
            refine hK.out _ _ ?_ (fun hHeld => ?_)
            · exact ⟨keepC u1 HB6.out, keepC u0 HB6.out⟩
            have s6 : w6.cell? ⟨X.heap.size + 1, 0, none⟩ = some (.slice va vl vc) := grow6.cell (a := ⟨X.heap.size + 1, 0, none⟩) (by have h := alloc_cell (X.drew.alloc (.cells #[] 25)) #[.slice va vl vc] 25 0 rfl; rw [World.size_alloc] at h; exact h) (by intro e; have e2 : X.heap.size + 1 = X.heap.size := Option.some.inj e; omega)
            clear hK K hHeld own6 grow6
            try simp [Act.put]
            refine wpAnyX_one (i := 9) (by kernel_rfl) rfl (fun K hK => ?_)
            refine step_append_all rfl (.tmp 42) (.tmp 44) 41 rfl X.heap.size 25 i0 (.agg #[.slice none 0 0]) 1 24 Try.underlying41 hi0 hz0 hz1 hz2 rfl (by decide) v6 (0 + cl) ([] ++ cs) rfl (OW6.out) (some ⟨X.heap.size + 1, 0, none⟩) 1 1 [.slice va vl vc] (fun h => by cases h) rfl rfl (fun ad e j u hj => by cases e; exact news1 s6 j u hj) (by intro u hu; simp at hu; subst hu; rfl) hb3a hb4a (HB6.out).size ?_
            intro v9 w9 own9 grow9
            have HB9 : Hid (Below X.heap.size X w9) := (HB6.out).grown grow9 (HB6.out).size (fun kk hk => ((OW6.out.lt kk hk).1))
            refine hK.out _ _ ?_ (fun hHeld => ?_)
            · exact ⟨keepC u1 HB9.out, keepC u0 HB9.out⟩
            have OW9 : Hid (w9.ownsRow w1.heap.size 25 1 v9 (cl + 1) (cs ++ [.slice va vl vc])) := by
              have h := own9
              rw [List.nil_append, Nat.zero_add] at h
              exact ownsRow_baseL h (by omega)
            have t3 := keepC u1 HB9.out
            have f9 : w9.frozen? ⟨g, q * 5 + 3, none⟩ = false := (HB9.out.frozen (by show g < X.heap.size; omega)).trans fX
            obtain ⟨va9, vc9, hv9⟩ : ∃ a c, v9 = .slice a (cl + 1) c := by
              rcases OW9.out.2 with ⟨e, e0⟩ | ⟨g5, cap5, cur5, e, _⟩
              · exact ⟨none, 0, by rw [e, e0]⟩
              · exact ⟨_, cap5, e⟩
            subst hv9
            clear hK K hHeld own9 grow9 OW6
            try simp [Act.put]
            refine wpAnyX_one (i := 10) (by kernel_rfl) rfl (fun K hK => ?_)
            go_simp
            refine hK.out _ _ ?_ (fun hHeld => ?_)
            · (try dsimp only)
              exact ⟨keepC u1 HB9.out, keepC u0 HB9.out⟩
            clear hK K
            try simp [Act.put]
            refine wpAnyX_take (i := 11) (v := ?_) rfl (by kernel_rfl) (by kernel_rfl) (by kernel_rfl) (by kernel_rfl) (fun _ _ _ h => h) (Or.inl ⟨by rfl, ?_⟩) (by assumption) ?_
            rotate_left
            · intro w hSw; (try dsimp only at hSw); first | (go_simp; done) | (go_simp; with_reducible rfl)
            simp [Act.put]
            refine wpAnyX_last (by kernel_rfl) rfl (fun K hK => ?_)
            go_simp
            refine hK.out _ _ ?_
            clear hK K
            try simp [Act.put]
            refine wpAnyX_done (by kernel_rfl) ?_ _
            refine NoPanic.normal ?_
            have B9 : Hid (Below w1.heap.size w1 w9) := BX.out.trans (HB9.out.mono BX.out.size)
            have FF9 : Hid _ := FIN1.out w9 _ B9.out OW9.out
            have BW : Hid (Below w0.heap.size W (w9.setCell ⟨g, q * 5 + 3, none⟩ (.slice va9 (cl + 1) vc9))) := ((HB1.out.mono (by have := HB.out.size; omega)).trans (B9.out.mono (by have := HB1.out.size; have := HB.out.size; omega))).setCell (by show w0.heap.size ≤ g; omega) _
            clear t3 f9 OW9 u0 u1 fX
            go_wp2_with fail
            go_ret
            first
            | exact ⟨rfl, BW.out, fun h => absurd rfl h, fun _ => ⟨trivial, FF9.out⟩⟩
            | exact ⟨rfl, BW.out, FF9.out⟩
        · go_simp
          refine hK.out _ _ ?_ (fun hHeld => ?_)
          · exact ⟨keepC u1 (((Below.refl X.heap.size X).drew.alloc (Nat.le_refl _) (.cells #[.slice va vl vc] 25))), keepC u0 (((Below.refl X.heap.size X).drew.alloc (Nat.le_refl _) (.cells #[.slice va vl vc] 25)))⟩
          clear hK K hHeld
          try simp [Act.put]
          refine wpAnyX_one (i := 1) (by kernel_rfl) rfl (fun K hK => ?_)
          go_simp
          refine hK.out _ _ ?_ (fun hHeld => ?_)
          · exact ⟨keepC u1 (((((Below.refl X.heap.size X).drew.alloc (Nat.le_refl _) (.cells #[.slice va vl vc] 25))).alloc (by show X.heap.size ≤ (X.drew.alloc _).heap.size; simp) (.cells #[] 25))), keepC u0 (((((Below.refl X.heap.size X).drew.alloc (Nat.le_refl _) (.cells #[.slice va vl vc] 25))).alloc (by show X.heap.size ≤ (X.drew.alloc _).heap.size; simp) (.cells #[] 25)))⟩
          clear hK K hHeld
          try simp [Act.put]
          refine wpAnyX_one (i := 6) (by kernel_rfl) rfl (fun K hK => ?_)
          refine step_append_all rfl (.tmp 37) (.tmp 41) 41 rfl X.heap.size 25 i0 (.agg #[.slice none 0 0]) 1 24 Try.underlying41 hi0 hz0 hz1 hz2 rfl (by decide) (.slice (some ⟨X.heap.size + 1, 0, none⟩) 0 0) 0 [] rfl (own_g2 X.drew (.cells #[.slice va vl vc] 25)) ca cl cc cs JN.out rfl JL.out (JS1.out _ (BX.out.trans ((((((Below.refl X.heap.size X).drew.alloc (Nat.le_refl _) (.cells #[.slice va vl vc] 25))).alloc (by show X.heap.size ≤ (X.drew.alloc _).heap.size; simp) (.cells #[] 25))).mono BX.out.size))) JO.out hb1a hb2a (((((Below.refl X.heap.size X).drew.alloc (Nat.le_refl _) (.cells #[.slice va vl vc] 25))).alloc (by show X.heap.size ≤ (X.drew.alloc _).heap.size; simp) (.cells #[] 25))).size ?_
          intro v6 w6 own6 grow6
          have HB6 : Hid (Below X.heap.size X w6) := (((((Below.refl X.heap.size X).drew.alloc (Nat.le_refl _) (.cells #[.slice va vl vc] 25))).alloc (by show X.heap.size ≤ (X.drew.alloc _).heap.size; simp) (.cells #[] 25))).grown grow6 (((((Below.refl X.heap.size X).drew.alloc (Nat.le_refl _) (.cells #[.slice va vl vc] 25))).alloc (by show X.heap.size ≤ (X.drew.alloc _).heap.size; simp) (.cells #[] 25))).size (fun kk hk => by cases hk; first | exact Nat.le_refl _ | exact Nat.le_succ _)
          have OW6 : Hid (w6.ownsRow X.heap.size 25 1 v6 (0 + cl) ([] ++ cs)) := own6
          refine hK.out _ _ ?_ (fun hHeld => ?_)
          · exact ⟨keepC u1 HB6.out, keepC u0 HB6.out⟩
          have s6 : w6.cell? ⟨X.heap.size, 0, none⟩ = some (.slice va vl vc) := grow6.cell (a := ⟨X.heap.size, 0, none⟩) (keepC (alloc_cell X.drew #[.slice va vl vc] 25 0 rfl) (one_belowS _ _)) (by intro e; have e2 : X.heap.size = X.heap.size + 1 := Option.some.inj e; omega)
          clear hK K hHeld own6 grow6
          try simp [Act.put]
          refine wpAnyX_one (i := 9) (by kernel_rfl) rfl (fun K hK => ?_)
          refine step_append_all rfl (.tmp 42) (.tmp 44) 41 rfl X.heap.size 25 i0 (.agg #[.slice none 0 0]) 1 24 Try.underlying41 hi0 hz0 hz1 hz2 rfl (by decide) v6 (0 + cl) ([] ++ cs) rfl (OW6.out) (some ⟨X.heap.size, 0, none⟩) 1 1 [.slice va vl vc] (fun h => by cases h) rfl rfl (fun ad e j u hj => by cases e; exact news1 s6 j u hj) (by intro u hu; simp at hu; subst hu; rfl) hb3a hb4a (HB6.out).size ?_
          intro v9 w9 own9 grow9
          have HB9 : Hid (Below X.heap.size X w9) := (HB6.out).grown grow9 (HB6.out).size (fun kk hk => ((OW6.out.lt kk hk).1))
          refine hK.out _ _ ?_ (fun hHeld => ?_)
          · exact ⟨keepC u1 HB9.out, keepC u0 HB9.out⟩
          have OW9 : Hid (w9.ownsRow w1.heap.size 25 1 v9 (cl + 1) (cs ++ [.slice va vl vc])) := by
            have h := own9
            rw [List.nil_append, Nat.zero_add] at h
            exact ownsRow_baseL h (by omega)
          have t3 := keepC u1 HB9.out
          have f9 : w9.frozen? ⟨g, q * 5 + 3, none⟩ = false := (HB9.out.frozen (by show g < X.heap.size; omega)).trans fX
          obtain ⟨va9, vc9, hv9⟩ : ∃ a c, v9 = .slice a (cl + 1) c := by
            rcases OW9.out.2 with ⟨e, e0⟩ | ⟨g5, cap5, cur5, e, _⟩
            · exact ⟨none, 0, by rw [e, e0]⟩
            · exact ⟨_, cap5, e⟩
          subst hv9
          clear hK K hHeld own9 grow9 OW6
          try simp [Act.put]
          refine wpAnyX_one (i := 10) (by kernel_rfl) rfl (fun K hK => ?_)
          go_simp
          refine hK.out _ _ ?_ (fun hHeld => ?_)
          · (try dsimp only)
            exact ⟨keepC u1 HB9.out, keepC u0 HB9.out⟩
          clear hK K
          try simp [Act.put]
          refine wpAnyX_take (i := 11) (v := ?_) rfl (by kernel_rfl) (by kernel_rfl) (by kernel_rfl) (by kernel_rfl) (fun _ _ _ h => h) (Or.inl ⟨by rfl, ?_⟩) (by assumption) ?_
          rotate_left
          · intro w hSw; (try dsimp only at hSw); first | (go_simp; done) | (go_simp; with_reducible rfl)
          simp [Act.put]
          refine wpAnyX_last (by kernel_rfl) rfl (fun K hK => ?_)
          go_simp
          refine hK.out _ _ ?_
          clear hK K
          try simp [Act.put]
          refine wpAnyX_done (by kernel_rfl) ?_ _
          refine NoPanic.normal ?_
          have B9 : Hid (Below w1.heap.size w1 w9) := BX.out.trans (HB9.out.mono BX.out.size)
          have FF9 : Hid _ := FIN1.out w9 _ B9.out OW9.out
          have BW : Hid (Below w0.heap.size W (w9.setCell ⟨g, q * 5 + 3, none⟩ (.slice va9 (cl + 1) vc9))) := ((HB1.out.mono (by have := HB.out.size; omega)).trans (B9.out.mono (by have := HB1.out.size; have := HB.out.size; omega))).setCell (by show w0.heap.size ≤ g; omega) _
          clear t3 f9 OW9 u0 u1 fX
          go_wp2_with fail
          go_ret
          first
          | exact ⟨rfl, BW.out, fun h => absurd rfl h, fun _ => ⟨trivial, FF9.out⟩⟩
          | exact ⟨rfl, BW.out, FF9.out⟩
  · rw [if_pos hE]
    have h1 : decide (gcheckE G = 0) = false := decide_eq_false hE
    have h2 : (gcheckE G == 0) = false := by simp [hE]
    clear hrow hgr eL ML hsl hGq
    generalize gcheckE G = E at *
    generalize G.length = gl at *
    generalize (pt L q).cm.length = cl at *
    generalize L.length = n at *
    go_enter Try.func32, Try.ntmps32
    go_wp2_with fail
    refine Calls.mono DC.out ?_
    rintro e w1 ⟨v1, rfl, hb1, Kc, hown⟩
    obtain ⟨va, vc, rfl, hcl⟩ := hown.cls
    have HB1 : Hid (Below W.heap.size W w1) := hb1
    have x0 := keepC y0 hb1
    have xk := keepC kc hb1
    have sg : g < w1.heap.size := World.block_lt_of_cell? _ _ x0
    have sk : kb < w1.heap.size := World.block_lt_of_cell? _ _ xk
    clear hb1 hown hcl y0 y1 y2 kc gcl f3
    generalize (resF G).length = vl at *
    go_wp2_with fail
    go_ret
    exact ⟨rfl, ((one_belowS w1 _).mono (by have := HB1.out.size; have := HB.out.size; omega) |> fun h => (HB1.out.mono (by have := HB.out.size; omega)).trans h), fun _ => HB1.out.trans ((one_belowS w1 _).mono HB1.out.size), fun h => absurd h hE⟩
end Go.Proofs.Ytgjfmepbphfjoaa
