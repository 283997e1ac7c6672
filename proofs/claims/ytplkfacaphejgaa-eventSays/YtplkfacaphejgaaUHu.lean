/-
  Dispatch, where nothing is wrong.
-/
import Derived.Test.YtplkfacaphejgaaUHgTp
import Derived.Test.YtplkfacaphejgaaUHp
import Derived.Test.YtplkfacaphejgaaUHq
namespace Go.Proofs.Ytplkfacaphejgaa
open Go.RowKit Go.ChangeShapes Go.WideShapes
set_option linter.unusedVariables false

def stopS (L : List Hr) (x : Spot) : Bool := (hearF L x).any Hr.st
theorem told_vis (L : List Hr) : ∀ X : List Spot, toldF L X = (visF (stopS L) X).flatMap (hearF L)
  | [] => rfl
  | x :: t => by
    rw [toldF, visF, List.flatMap_cons]
    congr 1
    show (if stopS L x = true then [] else toldF L t) = _
    cases h : stopS L x with
    | true => simp
    | false => simp [told_vis L t]
theorem vis_short (st : Spot → Bool) : ∀ X : List Spot, (visF st X).length ≤ X.length
  | [] => Nat.le_refl _
  | x :: t => by
    rw [visF]
    have := vis_short st t
    cases st x <;> simp <;> omega
theorem flat_short (L : List Hr) : ∀ X : List Spot, (X.flatMap (hearF L)).length ≤ X.length * L.length
  | [] => by simp
  | x :: t => by
    rw [List.flatMap_cons, List.length_append, List.length_cons]
    have h1 := flat_short L t
    have h2 : (hearF L x).length ≤ L.length := List.length_filter_le _ _
    have h3 : (t.length + 1) * L.length = t.length * L.length + L.length := by rw [Nat.succ_mul]
    omega

set_option maxRecDepth 100000 in
set_option maxHeartbeats 4000000 in
theorem disp_ok (a : Option Addr) (c : Nat) (S : List Nd) (la : Option Addr) (lc : Nat) (L : List Hr) (k : Nat) (u : Int) (w : World) (wf : WF S) (hS : NdsAt w a S) (hk : k < S.length) (hE : findE S k u = 0) (hBL : BigH L) (hH : HrsAt w la L) (hln : la = none → L.length = 0) (hE1 : hcheckE L S.length = 0) :
    Calls Try.prog 4 #[.agg #[.slice a S.length c], .slice la L.length lc, .agg #[.int .i64 (k : Int), .int .i64 u]] w fun e w' => ∃ ca cc va vc, e = .returned (.tuple #[.slice ca ((toldF L (spotsF (pathF S k))).map (callH S k)).length cc, .slice va (leftF L ((toldF L (spotsF (pathF S k))).map Hr.id)).length vc, .int .i64 0]) ∧ Below w.heap.size w w' ∧ CalsAt w' ca ((toldF L (spotsF (pathF S k))).map (callH S k)) ∧ HrsAt w' va (leftF L ((toldF L (spotsF (pathF S k))).map Hr.id)) ∧ (ca = none → cc = 0) ∧ ((toldF L (spotsF (pathF S k))).map (callH S k)).length ≤ cc ∧ cc ≤ 9223372036854775807 := by
  obtain ⟨hL24, hnd, hPL⟩ := hcheck_ok hE1
  have hN := wf.small
  have D1 : Hid (∀ W, NdsAt W a S → Calls _ _ _ _ _) := fun W hW => path_ok a c S k u W wf hW hk hE
  have d2 := fun (W : World) (hW : HrsAt W la L) => hcheck_any la lc L (S.length : Int) W (by omega) hBL hW
  rw [hE1] at d2
  have D2 : Hid _ := d2
  have D3 : Hid (∀ W, HrsAt W la L → Calls _ _ _ _ _) := fun W hW => bySpot_any la lc L W hL24 hW
  have D5 : Hid (∀ W, HrsAt W la L → Calls _ _ _ _ _) := fun W hW => cloneHr_any la lc L W (by omega) hW hln
  have OKL : Hid (∀ i, i < L.length → (Lit.int .i64 (hr L i).id).wf = true) := hBL
  have SPL : Hid (spotsF (pathF S k) = (pathF S k).reverse.map (fun p => (p, true)) ++ (pathF S k).map (fun p => (p, false))) := rfl
  have TV : Hid (toldF L (spotsF (pathF S k)) = (visF (stopS L) (spotsF (pathF S k))).flatMap (hearF L)) := told_vis L _
  have hpl := path_len S k
  have hpos : 0 < (pathF S k).length := by
    have := path_head S k
    cases h : pathF S k with
    | nil => rw [h] at this; cases this
    | cons y t => simp
  have VIS : Hid (∀ (V2 : World) (mb B : Nat) (E : List (Spot × Value)) (sb tb : Nat), NdsAt V2 a S → Groups B V2 mb E L → V2.cell? ⟨sb, 0, none⟩ = some (.slice a S.length c) → V2.cell? ⟨tb, 0, none⟩ = some (.int .i64 (k : Int)) → mb < V2.heap.size → ∀ (X : List Spot) (x : Spot) (W : World), X.length < 2 * (pathF S k).length → VisAt V2 mb ((X.flatMap (hearF L)).map (callH S k)) ((X.flatMap (hearF L)).map Hr.id) W →
      Calls Try.prog 14 (#[spotV x] ++ #[.pointer (some ⟨V2.heap.size, 0, none⟩), .pointer (some ⟨V2.heap.size + 3, 0, none⟩), .pointer (some ⟨sb, 0, none⟩), .pointer (some ⟨tb, 0, none⟩), .pointer (some ⟨V2.heap.size + 2, 0, none⟩)]) W fun e W' => e = .returned (.bool (!stopS L x)) ∧ OffT (V2.heap.size + 1) W W' ∧ VisAt V2 mb (((X ++ [x]).flatMap (hearF L)).map (callH S k)) (((X ++ [x]).flatMap (hearF L)).map Hr.id) W') := fun V2 mb B E sb tb h1 h2 h3 h4 h5 X x W hX hV => by
    have hsh := flat_short L X
    have hb : X.length * L.length ≤ 50 * 24 := Nat.mul_le_mul (by omega) hL24
    have := visit_any V2 mb B E L a c sb tb k S hN hk h1 hL24 hPL hBL h2 h3 h4 h5 x _ _ W (by rw [List.length_map]; omega) (by rw [List.length_map]; omega) hV
    have e1 : (X ++ [x]).flatMap (hearF L) = X.flatMap (hearF L) ++ hearF L x := by simp
    rw [e1, List.map_append, List.map_append]
    exact this
  have HS : Hid (NdsAt w a S) := hS
  have HL : Hid (HrsAt w la L) := hH
  clear hS hE wf hH d2 hE1 hBL hk hnd hPL hln
  obtain ⟨P, hP⟩ : ∃ P, pathF S k = P := ⟨_, rfl⟩
  rw [hP] at D1 SPL TV VIS hpl hpos ⊢
  clear hP
  obtain ⟨T, hT⟩ : ∃ T, toldF L (spotsF P) = T := ⟨_, rfl⟩
  rw [hT] at TV ⊢
  clear hT
  obtain ⟨n, hn⟩ : ∃ n, S.length = n := ⟨_, rfl⟩
  rw [hn] at hN D1 D2 VIS hpl ⊢
  clear hn
  obtain ⟨m, hm⟩ : ∃ m, L.length = m := ⟨_, rfl⟩
  have HM : Hid (L.length = m) := hm
  rw [hm] at hL24 D2 D3 D5 OKL ⊢
  clear hm
  obtain ⟨pl, hplE⟩ : ∃ z, P.length = z := ⟨_, rfl⟩
  have HPL : Hid (P.length = pl) := hplE
  rw [hplE] at D1 hpl hpos VIS
  clear hplE
  go_enter Try.func4, Try.ntmps4
  go_wp2_with fail
  refine Calls.mono (D1.out _ (HS.out.below (two_belowS _ _ _))) ?_
  rintro e w1 ⟨v, rfl, hb, hown⟩
  have l0 := keepC (alloc_cell1 w #[.slice a n c] 24 0 (.cells #[.int .i64 (k : Int), .int .i64 u] 27) rfl) hb
  have l1 := keepC (alloc_cell2 w #[.int .i64 (k : Int), .int .i64 u] 27 0 (.cells #[.slice a n c] 24) rfl) hb
  have HB1 : Hid (Below w.heap.size w w1) := (two_belowS w _ _).trans (hb.mono (by simp; omega))
  obtain ⟨pb, pc, hv⟩ : ∃ pb pc, v = .slice (some ⟨pb, 0, none⟩) pl pc := by
    rcases hown.2 with ⟨_, e0⟩ | ⟨g, cap, cur, e, _⟩
    · omega
    · exact ⟨g, cap, e⟩
  subst hv
  have PI : Hid (IntsAt w1 (some ⟨pb, 0, none⟩) P) := by
    have h := hown
    rw [← HPL.out] at h
    obtain ⟨sa, cap, e, hi⟩ := ints_own h
    cases e
    exact hi
  clear hb hown D1
  go_wp2_with fail
  refine Calls.mono (D2.out _ (HL.out.below HB1.out)) ?_
  rintro e w2 ⟨rfl, hb⟩
  have HB2 : Hid (Below w.heap.size w w2) := HB1.out.trans (hb.mono HB1.out.size)
  have PI2 : Hid (IntsAt w2 (some ⟨pb, 0, none⟩) P) := PI.out.below hb
  replace l0 := keepC l0 hb
  replace l1 := keepC l1 hb
  clear hb D2 PI HB1
  go_wp2_with fail
  refine Calls.mono (D3.out _ (HL.out.below HB2.out)) ?_
  rintro e w3 ⟨E, rfl, hb, hG⟩
  have HB3 : Hid (Below w.heap.size w w3) := HB2.out.trans (hb.mono HB2.out.size)
  have PI3 : Hid (IntsAt w3 (some ⟨pb, 0, none⟩) P) := PI2.out.below hb
  have HG : Hid (Groups (w2.heap.size + 1) w3 w2.heap.size E L) := hG
  have hmb : w2.heap.size < w3.heap.size := box_lt hG.map
  replace l0 := keepC l0 hb
  replace l1 := keepC l1 hb
  have VS : Hid _ := VIS.out w3 w2.heap.size _ E w.heap.size (w.heap.size + 1) (HS.out.below HB3.out) hG l0 l1 hmb
  have hpbl : pb < w3.heap.size := by
    obtain ⟨b, o, e, hc⟩ := PI3.out 0 (by rw [HPL.out]; exact hpos)
    cases e
    exact World.block_lt_of_cell? _ _ hc
  have hmm := @run_makeMap Try.prog
  clear hb hG D3 PI2 HB2 VIS
  -- the world in which travel is called
  obtain ⟨WC, hWC⟩ : ∃ WC, (((w3.alloc (.cells #[.map (some w2.heap.size)] 44)).alloc (.map #[] 0)).alloc (.cells #[.map (some (w3.heap.size + 1))] 46)).alloc (.cells #[.slice none 0 0] 28) = WC := ⟨_, rfl⟩
  have hbc : Below w3.heap.size w3 WC := by rw [← hWC]; exact ((two_belowS w3 _ _).alloc (by simp; omega) _).alloc (by simp; omega) _
  have hsc : WC.heap.size = w3.heap.size + 4 := by rw [← hWC]; simp
  have VC : Hid (VisAt w3 w2.heap.size [] [] WC) := by
    refine ⟨hbc, by omega, ?_, ?_, ?_, .slice none 0 0, ?_, World.ownsRow_nil _ _ _ _⟩
    · rw [← hWC]
      exact (Below.heap_alloc _ _ _ (by simp; omega)).trans ((Below.heap_alloc _ _ _ (by simp; omega)).trans ((Below.heap_alloc _ _ _ (by simp)).trans (heap_alloc_new w3 _)))
    · rw [← hWC]
      refine (Below.heap_alloc _ _ _ (by simp)).trans ?_
      have := heap_alloc_new ((w3.alloc (.cells #[.map (some w2.heap.size)] 44)).alloc (.map #[] 0)) (.cells #[.map (some (w3.heap.size + 1))] 46)
      simpa using this
    · rw [← hWC]
      have h := SetAt.made (w3.alloc (.cells #[.map (some w2.heap.size)] 44))
      simp only [World.size_alloc] at h
      exact RawAt.kept h ((Below.heap_alloc _ _ _ (by simp)).trans (Below.heap_alloc _ _ _ (by simp)))
    · rw [← hWC]
      have := heap_alloc_new (((w3.alloc (.cells #[.map (some w2.heap.size)] 44)).alloc (.map #[] 0)).alloc (.cells #[.map (some (w3.heap.size + 1))] 46)) (.cells #[.slice none 0 0] 28)
      simpa using this
  have TR : Hid _ := travel_any #[.pointer (some ⟨w3.heap.size, 0, none⟩), .pointer (some ⟨w3.heap.size + 3, 0, none⟩), .pointer (some ⟨w.heap.size, 0, none⟩), .pointer (some ⟨w.heap.size + 1, 0, none⟩), .pointer (some ⟨w3.heap.size + 2, 0, none⟩)] (stopS L) (fun X W => VisAt w3 w2.heap.size ((X.flatMap (hearF L)).map (callH S k)) ((X.flatMap (hearF L)).map Hr.id) W) (w3.heap.size + 1) (w3.heap.size + 4) w3 P pb 0 pc (by rw [HPL.out]; omega) PI3.out hpbl (VisAt.own w3 w2.heap.size (fun X => (X.flatMap (hearF L)).map (callH S k)) (fun X => (X.flatMap (hearF L)).map Hr.id)) (fun X W h => h.below) (by omega) (by omega) (by rw [HPL.out]; exact VS.out) WC (by omega) VC.out
  rw [HPL.out] at TR
  clear VC VS
  go_wp2_with fail
  try rw [hWC]
  refine Calls.mono TR.out ?_
  rintro e w5 ⟨⟨ev, rfl⟩, hV⟩
  have VF : Hid (VisAt w3 w2.heap.size (T.map (callH S k)) (T.map Hr.id) w5) := by
    have h := hV
    rw [← SPL.out, ← TV.out] at h
    exact h
  have HB5 : Hid (Below w.heap.size w w5) := HB3.out.trans (VF.out.below.mono HB3.out.size)
  have hs5 := VF.out.size
  obtain ⟨vv, hvb, hvo⟩ := VF.out.row
  obtain ⟨ca, cc, hve, hCA⟩ := cals_own hvo
  subst hve
  have HCC : Hid ((ca = none → cc = 0) ∧ (T.map (callH S k)).length ≤ cc ∧ cc ≤ 9223372036854775807) := by
    show _ ∧ _
    rcases hvo.2 with ⟨e, e0⟩ | ⟨g, cap, cur, e, _, _, h1, h2, _⟩
    · simp only [Value.slice.injEq] at e
      obtain ⟨_, _, e3⟩ := e
      exact ⟨fun _ => e3, by omega, by omega⟩
    · simp only [Value.slice.injEq] at e
      obtain ⟨e1, _, e3⟩ := e
      unfold maxLen at h2
      exact ⟨fun h => (by rw [e1] at h; cases h), by omega, by omega⟩
  have HCA : Hid (CalsAt w5 ca (T.map (callH S k))) := hCA
  have BV : Hid (w5.heap[w3.heap.size + 3]? = some (.cells #[.slice ca (T.map (callH S k)).length cc] 28 (0, 0))) := hvb
  have eg := enters_of Try.func18 (by kernel_rfl) rfl
  have LF : Hid (fltH (gonePF (T.map Hr.id)) L = leftF L (T.map Hr.id)) := left_flt L _
  have D2T : Hid (∀ (W6 : World) (kb : Nat), Below w5.heap.size w5 W6 → w5.heap.size ≤ kb → TellsOffHr (fun x => (Lit.int .i64 x.id).wf = true) (fun b => b = kb) 18 #[.pointer (some ⟨w3.heap.size + 2, 0, none⟩)] (gonePF (T.map Hr.id)) W6) := fun W6 kb hb hkb x w1 hx hoff => by
    have hb1 : Below w5.heap.size w5 w1 := hb.trans (hoff.below hb.size (fun k hk => by rw [hk]; exact hkb))
    exact disp2_any (w3.heap.size + 2) (w3.heap.size + 1) (T.map Hr.id) _ x w1 hx (box_cell ((hb1.block _ (by omega)).trans VF.out.mx)) (RawAt.kept VF.out.set (hb1.block _ (by omega))) (by have := hb1.size; omega)
  have D2N : Hid (∀ (W6 : World), Below w5.heap.size w5 W6 → TellsHr (fun x => (Lit.int .i64 x.id).wf = true) 18 #[.pointer (some ⟨w3.heap.size + 2, 0, none⟩)] (gonePF (T.map Hr.id)) W6) := fun W6 hb x w1 hx hbb => by
    have hb1 : Below w5.heap.size w5 w1 := hb.trans (hbb.mono hb.size)
    exact disp2_any (w3.heap.size + 2) (w3.heap.size + 1) (T.map Hr.id) _ x w1 hx (box_cell ((hb1.block _ (by omega)).trans VF.out.mx)) (RawAt.kept VF.out.set (hb1.block _ (by omega))) (by have := hb1.size; omega)
  obtain ⟨CL, hCL⟩ : ∃ z, (T.map (callH S k)).length = z := ⟨_, rfl⟩
  have HCL : Hid ((T.map (callH S k)).length = CL) := hCL
  rw [hCL] at BV
  clear hV hvb hvo hCA hCL TR hWC hbc PI3 VF
  go_wp2_with fail
  refine Calls.mono (D5.out _ (HL.out.below HB5.out)) ?_
  rintro e w6 ⟨v6, rfl, hb6, own6⟩
  have HB6 : Hid (Below w5.heap.size w5 w6) := hb6
  rcases own6.2 with ⟨e6, e60⟩ | ⟨kb, cap, cur, e6, hkb, _⟩
  · subst e6
    have eL : L = [] := List.eq_nil_of_length_eq_zero (by rw [HM.out]; exact e60)
    have DN : Hid _ := deleteHr_none _ 18 #[.pointer (some ⟨w3.heap.size + 2, 0, none⟩)] (gonePF (T.map Hr.id)) w6 eg (D2N.out w6 hb6)
    have EL : Hid (leftF L (T.map Hr.id) = []) := (by rw [eL]; rfl : leftF L (T.map Hr.id) = [])
    clear own6 hb6 eL D2N D2T e60
    go_wp2_with fail
    refine Calls.mono DN.out ?_
    rintro e w7 ⟨rfl, hb7⟩
    have H57 : Hid (Below w5.heap.size w5 w7) := HB6.out.trans (hb7.mono HB6.out.size)
    have c7 := box_cell ((H57.out.block _ (by omega)).trans BV.out)
    have HB7 : Hid (Below w.heap.size w w7) := HB5.out.trans (H57.out.mono HB5.out.size)
    have HC7 : Hid (CalsAt w7 ca (T.map (callH S k))) := HCA.out.below H57.out
    have HF7 : Hid (HrsAt w7 none (leftF L (T.map Hr.id))) := (by rw [EL.out]; exact fun i hi => absurd hi (Nat.not_lt_zero _) : HrsAt w7 none (leftF L (T.map Hr.id)))
    have HFL : Hid ((leftF L (T.map Hr.id)).length = 0) := (by rw [EL.out]; rfl : (leftF L (T.map Hr.id)).length = 0)
    clear hb7
    go_wp2_with fail
    exact bodyPost_ret (v := .tuple #[.slice ca CL cc, .slice none 0 0, .int .i64 0]) (by simp [results, Try.results4, go_sem]) rfl ⟨ca, cc, none, 0, by rw [HCL.out, HFL.out], HB7.out, HC7.out, HF7.out, HCC.out⟩
  · subst e6
    have rh := row_hr own6 HM.out
    obtain ⟨F6, hrow, hle, hcm, _, hF6⟩ := rh
    have DD : Hid _ := deleteHr_some _ 18 #[.pointer (some ⟨w3.heap.size + 2, 0, none⟩)] (gonePF (T.map Hr.id)) kb m cap L F6 w6 HM.out hle hcm (by omega) hrow hF6 eg OKL.out (D2T.out w6 kb hb6 hkb)
    clear own6 hb6 hrow hF6 D2N D2T
    go_wp2_with fail
    refine Calls.mono DD.out ?_
    rintro e w7 ⟨rfl, hoff, hHR⟩
    have H57 : Hid (Below w5.heap.size w5 w7) := HB6.out.trans (hoff.below HB6.out.size (fun k hk => by rw [hk]; exact hkb))
    have c7 := box_cell ((H57.out.block _ (by omega)).trans BV.out)
    have HB7 : Hid (Below w.heap.size w w7) := HB5.out.trans (H57.out.mono HB5.out.size)
    have HC7 : Hid (CalsAt w7 ca (T.map (callH S k))) := HCA.out.below H57.out
    obtain ⟨FL, hFL⟩ : ∃ z, (fltH (gonePF (T.map Hr.id)) L).length = z := ⟨_, rfl⟩
    have HFL : Hid ((leftF L (T.map Hr.id)).length = FL) := hFL
    have HF7 : Hid (HrsAt w7 (some ⟨kb, 0, none⟩) (leftF L (T.map Hr.id))) := hHR
    rw [hFL]
    clear hoff hHR hFL
    go_wp2_with fail
    exact bodyPost_ret (v := .tuple #[.slice ca CL cc, .slice (some ⟨kb, 0, none⟩) FL cap, .int .i64 0]) (by simp [results, Try.results4, go_sem]) rfl ⟨ca, cc, (some ⟨kb, 0, none⟩), cap, by rw [HCL.out, HFL.out], HB7.out, HC7.out, HF7.out, HCC.out⟩
end Go.Proofs.Ytplkfacaphejgaa
