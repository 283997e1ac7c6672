/-
  Copy and Like.
-/
import Derived.Test.YtgjfmepbphfjoaaUCf
namespace Go.Proofs.Ytgjfmepbphfjoaa
open Go.RowKit Go.ChangeShapes Go.WideShapes

theorem cells_zero {m : Nat} : ∀ {l : List Cl}, cellsE m l = 0 ↔ ∀ x ∈ l, cellE m x = 0
  | [] => by simp [cellsE]
  | x :: l => by
    rw [cellsE]
    by_cases h : cellE m x = 0
    · rw [if_pos h, cells_zero]
      simp [h]
    · rw [if_neg h]
      simp [h]

theorem cell_parts {m : Nat} {x : Cl} (h : cellE m x = 0) : (-1000000 ≤ x.n ∧ x.n ≤ 1000000) ∧ x.ks.length ≤ 8 ∧ ∀ k ∈ x.ks, ∃ q : Nat, k = q ∧ q < m := by
  unfold cellE at h
  split at h
  · omega
  · rename_i h1
    split at h
    · omega
    · rename_i h2
      split at h
      · omega
      · rename_i h3
        refine ⟨by omega, by omega, fun k hk => ?_⟩
        simp only [List.any_eq_true, not_exists, not_and] at h3
        have h4 := h3 k hk
        simp only [Bool.not_eq_true', decide_eq_false_iff_not, Decidable.not_not] at h4
        exact ⟨k.toNat, by omega, by omega⟩

theorem cell_mk {m : Nat} {x : Cl} (h1 : -1000000 ≤ x.n ∧ x.n ≤ 1000000) (h2 : x.ks.length ≤ 8) (h3 : ∀ k ∈ x.ks, ∃ q : Nat, k = q ∧ q < m) : cellE m x = 0 := by
  unfold cellE
  rw [if_neg (by omega), if_neg (by omega), if_neg]
  simp only [List.any_eq_true, not_exists, not_and]
  intro k hk
  obtain ⟨q, e, hq⟩ := h3 k hk
  simp only [Bool.not_eq_true', decide_eq_false_iff_not, Decidable.not_not]
  omega

/-- A right graph. -/
structure Right (G : List Cl) : Prop where
  few : G.length ≤ 24
  range : ∀ i, i < G.length → -1000000 ≤ (cl G i).n ∧ (cl G i).n ≤ 1000000
  kids8 : ∀ i, i < G.length → (cl G i).ks.length ≤ 8
  kids : KidsIn G

theorem gcheck_zero {G : List Cl} : gcheckE G = 0 ↔ Right G := by
  unfold gcheckE
  constructor
  · intro h
    split at h
    · omega
    · rename_i hl
      have h1 := cells_zero.1 h
      have h2 : ∀ i, i < G.length → cellE G.length (cl G i) = 0 := fun i hi => h1 _ (by rw [cl_elem hi]; exact List.getElem_mem hi)
      exact ⟨by omega, fun i hi => (cell_parts (h2 i hi)).1, fun i hi => (cell_parts (h2 i hi)).2.1, fun i hi => (cell_parts (h2 i hi)).2.2⟩
  · intro h
    rw [if_neg (by have := h.few; omega), cells_zero]
    intro x hx
    obtain ⟨i, hi, rfl⟩ := List.getElem_of_mem hx
    have := cell_mk (m := G.length) (h.range i hi) (h.kids8 i hi) (h.kids i hi)
    rwa [cl_elem hi] at this

theorem Right.copy {G : List Cl} (h : Right G) : Right (copyF G) := by
  by_cases h0 : G.length = 0
  · rw [copyF_none h0]
    exact ⟨by simp, (fun i hi => by cases hi), (fun i hi => by cases hi), (fun i hi => by cases hi)⟩
  · have h0 : 0 < G.length := by omega
    have hl := copyF_len h0
    have hr := reach_len h.kids h0
    have hp : ∀ i, i < (copyF G).length → ∃ q : Nat, q < G.length ∧ cl (copyF G) i = copyC G (reach G) (q : Int) := fun i hi => by
      rw [hl] at hi
      obtain ⟨q, e, hq⟩ := (reach_places h.kids h0).2 ((reach G).getD i 0) (by rw [getD_elem _ _ hi]; exact List.getElem_mem hi)
      exact ⟨q, hq, by rw [copyF_cl h0 hi, e]⟩
    refine ⟨by have := h.few; omega, fun i hi => ?_, fun i hi => ?_, copyF_kids h.kids⟩
    · obtain ⟨q, hq, e⟩ := hp i hi
      rw [e]
      have := h.range q hq
      simpa [copyC] using this
    · obtain ⟨q, hq, e⟩ := hp i hi
      rw [e]
      have := h.kids8 q hq
      simpa [copyC] using this

theorem Right.big {G : List Cl} (h : Right G) : BigC G := fun i hi => by have := h.kids8 i hi; omega
theorem copy_le {G : List Cl} (h : Right G) : (copyF G).length ≤ G.length := by
  by_cases h0 : G.length = 0
  · rw [copyF_none h0]; simp
  · rw [copyF_len (by omega)]
    exact reach_len h.kids (by omega)

/-- What Copy answers beside its error. -/
def resF (G : List Cl) : List Cl := if gcheckE G = 0 then copyF G else []

theorem OwnC.nil (B : Nat) (w : World) : OwnC B [] (fun _ => .slice none 0 0) (.slice none 0 0) w := ⟨World.ownsRow_nil _ _ _ _, fun i hi => by cases hi⟩

set_option maxRecDepth 100000 in
set_option maxHeartbeats 2000000 in
theorem gcopy_any (a : Option Addr) (c : Nat) (G : List Cl) (w : World) (hN : G.length ≤ 9223372036854775807) (hB : BigC G) (hS : ClsAt w a G) :
    Calls Try.prog 27 #[.agg #[.slice a G.length c]] w fun e w' => ∃ v, e = .returned (.tuple #[.agg #[v], .int .i64 (gcheckE G)]) ∧ Below w.heap.size w w' ∧ ∃ K, OwnC w.heap.size (resF G) K v w' := by
  have D : Hid (∀ W, ClsAt W a G → Calls _ _ _ _ _) := fun W hW => gcheck_any a c G W hN hB hW
  have HS : Hid (ClsAt w a G) := hS
  have RF : Hid (resF G = if gcheckE G = 0 then copyF G else []) := (rfl : resF G = _)
  have CF : Hid (gcheckE G = 0 → 0 < G.length → ∀ W, ClsAt W a G → Calls _ _ _ _ _) := fun h1 h2 W hW => copyFrom_any a c G W (gcheck_zero.1 h1).kids h2 (gcheck_zero.1 h1).few (gcheck_zero.1 h1).kids8 hW
  have NO : Hid (G.length = 0 → copyF G = []) := copyF_none
  clear hS hB
  generalize resF G = R at *
  generalize gcheckE G = E at *
  obtain ⟨n, hn⟩ : ∃ n, G.length = n := ⟨_, rfl⟩
  rw [hn] at hN D CF NO ⊢
  clear hn
  have df0 : (((w.alloc (.cells #[.slice a n c] 25)).alloc (.cells #[.slice none 0 0] 25)).frozen? ⟨w.heap.size + 1, 0, none⟩ = false) := by go_simp
  go_enter Try.func27, Try.ntmps27
  go_wp2_with fail
  refine Calls.mono (D.out _ (HS.out.below (two_belowS _ _ _))) ?_
  rintro e w1 ⟨rfl, hb⟩
  have l0 := keepC (alloc_cell1 w #[.slice a n c] 25 0 (.cells #[.slice none 0 0] 25) rfl) hb
  have l1 := keepC (alloc_cell2 w #[.slice none 0 0] 25 0 (.cells #[.slice a n c] 25) rfl) hb
  have f1 := (hb.frozen (p := ⟨w.heap.size + 1, 0, none⟩) (by simp)).trans df0
  have hs1 := hb.size
  simp only [World.size_alloc] at hs1
  have q1 : w.heap.size + 1 < w1.heap.size := by omega
  have HB : Hid (Below w.heap.size w w1) := (two_belowS w _ _).trans (hb.mono (by simp; omega))
  have r0 : ∀ u v, (w1.setCell ⟨w.heap.size + 1, 0, none⟩ u).cell? ⟨w.heap.size + 1, 0, none⟩ = some v ↔ u = v := fun u v => by rw [World.cell?_setCell_same _ _ _ l1]; simp
  clear hb D df0
  by_cases hE : E = 0
  · subst hE
    have RF2 : Hid (R = copyF G) := by show _ = _; rw [RF.out, if_pos rfl]
    by_cases h0 : n = 0
    · have RF3 : Hid (R = []) := RF2.out.trans (NO.out h0)
      subst h0
      have r1 : (w1.setCell ⟨w.heap.size + 1, 0, none⟩ (.slice none 0 0)).cell? ⟨w.heap.size + 1, 0, none⟩ = some (.slice none 0 0) := World.cell?_setCell_same _ _ _ l1
      clear r0
      go_wp2_with fail
      refine bodyPost_ret (v := .tuple #[.agg #[.slice none 0 0], .int .i64 0]) (by simp [results, Try.results27, go_sem, r1]) rfl ⟨_, rfl, HB.out.setCell (by show w.heap.size ≤ w.heap.size + 1; omega) _, _, (show OwnC _ R _ _ _ by rw [RF3.out]; exact OwnC.nil _ _)⟩
    · have hn0 : decide ((n : Int) = 0) = false := decide_eq_false (by omega)
      have hn1 : ((n : Int) == 0) = false := by simp; omega
      have CF2 : Hid _ := CF.out rfl (by omega)
      clear r0
      go_wp2_with fail
      refine Calls.mono (CF2.out _ (HS.out.below HB.out)) ?_
      rintro e w2 ⟨v, K, rfl, hb, hown⟩
      obtain ⟨va, vc, hv, _⟩ := hown.cls
      subst hv
      have m1 := keepC l1 hb
      have g1 := (hb.frozen (p := ⟨w.heap.size + 1, 0, none⟩) (by exact q1)).trans f1
      have q2 : w.heap.size + 1 < w2.heap.size := Nat.lt_of_lt_of_le q1 hb.size
      have r1 : ∀ u, (w2.setCell ⟨w.heap.size + 1, 0, none⟩ u).cell? ⟨w.heap.size + 1, 0, none⟩ = some u := fun u => World.cell?_setCell_same _ _ _ m1
      have HB2 : Hid (∀ u, Below w.heap.size w (w2.setCell ⟨w.heap.size + 1, 0, none⟩ u)) := fun u => (HB.out.trans (hb.mono HB.out.size)).setCell (by show w.heap.size ≤ w.heap.size + 1; omega) _
      have HOW : Hid (∀ u, OwnC w.heap.size R K (.slice va (copyF G).length vc) (w2.setCell ⟨w.heap.size + 1, 0, none⟩ u)) := fun u => by
        rw [RF2.out]
        have h1 := hown.kept (w' := w2.setCell ⟨w.heap.size + 1, 0, none⟩ u) (fun j h1 _ _ => Below.heap_setCell _ _ _ _ (by show j ≠ w.heap.size + 1; omega))
        exact ⟨ownsRow_baseL h1.1 (by omega), fun i hi => ownsRow_baseL (h1.2 i hi) (by omega)⟩
      clear hb hown l0 l1 RF2 RF NO
      generalize (copyF G).length = m at *
      go_wp2_with fail
      refine bodyPost_ret (v := .tuple #[.agg #[.slice va m vc], .int .i64 0]) (by simp [results, Try.results27, go_sem, r1]) rfl ⟨_, rfl, HB2.out _, K, HOW.out _⟩
  · have RF2 : Hid (R = []) := by show _ = _; rw [RF.out, if_neg hE]
    have e1 : (E == 0) = false := beq_eq_false_iff_ne.2 hE
    have e2 : decide (E = 0) = false := decide_eq_false hE
    have r1 : (w1.setCell ⟨w.heap.size + 1, 0, none⟩ (.slice none 0 0)).cell? ⟨w.heap.size + 1, 0, none⟩ = some (.slice none 0 0) := World.cell?_setCell_same _ _ _ l1
    clear r0
    go_wp2_with fail
    refine bodyPost_ret (v := .tuple #[.agg #[.slice none 0 0], .int .i64 E]) (by simp [results, Try.results27, go_sem, r1]) rfl ⟨_, rfl, HB.out.setCell (by show w.heap.size ≤ w.heap.size + 1; omega) _, _, (show OwnC _ R _ _ _ by rw [RF2.out]; exact OwnC.nil _ _)⟩

/-- What Like answers: its error, and whether the copies are alike. -/
def likeE (A B : List Cl) : Int := if gcheckE A = 0 then gcheckE B else gcheckE A

theorem res_big (G : List Cl) : BigC (resF G) := by
  unfold resF
  split
  · rename_i h
    exact ((gcheck_zero.1 h).copy).big
  · intro i hi; cases hi
theorem res_few (G : List Cl) : (resF G).length ≤ 24 := by
  unfold resF
  split
  · rename_i h
    exact ((gcheck_zero.1 h).copy).few
  · simp

set_option maxRecDepth 100000 in
set_option maxHeartbeats 2000000 in
theorem like_any (a a' : Option Addr) (c c' : Nat) (A B : List Cl) (w : World) (hN : A.length ≤ 9223372036854775807) (hN' : B.length ≤ 9223372036854775807) (hB : BigC A) (hB' : BigC B) (hS : ClsAt w a A) (hS' : ClsAt w a' B) :
    Calls Try.prog 23 #[.agg #[.slice a A.length c], .agg #[.slice a' B.length c']] w fun e w' => ∃ r : Bool, e = .returned (.tuple #[.bool r, .int .i64 (likeE A B)]) ∧ Below w.heap.size w w' ∧ (r = true ↔ likeE A B = 0 ∧ copyF A = copyF B) := by
  have DA : Hid (∀ W, ClsAt W a A → Calls _ _ _ _ _) := fun W hW => gcopy_any a c A W hN hB hW
  have DB : Hid (∀ W, ClsAt W a' B → Calls _ _ _ _ _) := fun W hW => gcopy_any a' c' B W hN' hB' hW
  have HA : Hid (ClsAt w a A) := hS
  have HB0 : Hid (ClsAt w a' B) := hS'
  have LE : Hid (likeE A B = if gcheckE A = 0 then gcheckE B else gcheckE A) := (rfl : likeE A B = _)
  have RA : Hid (gcheckE A = 0 → resF A = copyF A) := fun h => if_pos h
  have RB : Hid (gcheckE B = 0 → resF B = copyF B) := fun h => if_pos h
  have BA := res_few A
  have DS : Hid (∀ sa sc sa' sc' W, ClsAt W sa (resF A) → ClsAt W sa' (resF B) → Calls _ _ _ _ _) := fun sa sc sa' sc' W h1 h2 => gsame_any sa sa' sc sc' (resF A) (resF B) W (by omega) (res_big A) h1 h2
  clear hS hS' hB hB'
  generalize likeE A B = L at *
  generalize gcheckE A = EA at *
  generalize gcheckE B = EB at *
  generalize resF A = XA at *
  generalize resF B = XB at *
  generalize A.length = n at *
  generalize B.length = n' at *
  go_enter Try.func23, Try.ntmps23
  go_wp2_with fail
  refine Calls.mono (DA.out _ (HA.out.below (two_belowS _ _ _))) ?_
  rintro e w1 ⟨v, rfl, hb, K, hown⟩
  obtain ⟨va, vc, hv, hcl⟩ := hown.cls
  subst hv
  have l1 := keepC (alloc_cell2 w #[.slice a' n' c'] 25 0 (.cells #[.slice a n c] 25) rfl) hb
  have hs1 := hb.size
  simp only [World.size_alloc] at hs1
  have q1 : w.heap.size + 1 < w1.heap.size := by omega
  have HB : Hid (Below w.heap.size w w1) := (two_belowS w _ _).trans (hb.mono (by simp; omega))
  have HCA : Hid (ClsAt w1 va XA) := hcl
  clear hb hown hcl DA
  obtain ⟨xa, hxa⟩ : ∃ z, XA.length = z := ⟨_, rfl⟩
  rw [hxa] at DS BA ⊢
  clear hxa
  by_cases hEA : EA = 0
  · have L2 : Hid (L = EB) := by show _ = _; rw [LE.out, if_pos hEA]
    have RA2 : Hid (XA = copyF A) := RA.out hEA
    subst hEA
    go_wp2_with fail
    refine Calls.mono (DB.out _ (HB0.out.below (HB.out.trans ((one_belowS _ _).mono HB.out.size)))) ?_
    rintro e w2 ⟨v2, rfl, hb, K2, hown2⟩
    obtain ⟨va2, vc2, hv2, hcl2⟩ := hown2.cls
    subst hv2
    have m2 := keepC (alloc_cell w1 #[.slice va xa vc] 25 0 rfl) hb
    have hs2 := hb.size
    simp only [World.size_alloc] at hs2
    have q2 : w1.heap.size < w2.heap.size := by omega
    have HB2 : Hid (Below w.heap.size w w2) := (HB.out.trans ((one_belowS _ _).mono HB.out.size)).trans (hb.mono (by have := HB.out.size; simp; omega))
    have HCA2 : Hid (ClsAt w2 va XA) := (HCA.out.below (one_belowS _ _)).below hb
    have HCB2 : Hid (ClsAt w2 va2 XB) := hcl2
    clear hb hown2 hcl2 DB l1
    obtain ⟨xb, hxb⟩ : ∃ z, XB.length = z := ⟨_, rfl⟩
    rw [hxb] at DS ⊢
    clear hxb
    by_cases hEB : EB = 0
    · have RB2 : Hid (XB = copyF B) := RB.out hEB
      subst hEB
      go_wp2_with fail
      refine Calls.mono (DS.out va vc va2 vc2 _ (HCA2.out.below (one_belowS _ _)) (HCB2.out.below (one_belowS _ _))) ?_
      rintro e w3 ⟨r, rfl, hb, hr⟩
      have HB3 : Hid (Below w.heap.size w w3) := (HB2.out.trans ((one_belowS _ _).mono HB2.out.size)).trans (hb.mono (by have := HB2.out.size; simp; omega))
      have HR : Hid (r = true ↔ L = 0 ∧ copyF A = copyF B) := by
        show _ ↔ _
        rw [hr, RA2.out, RB2.out, L2.out]
        simp
      clear hb hr
      go_wp2_with fail
      refine bodyPost_ret (v := .tuple #[.bool r, .int .i64 0]) (by simp [results, Try.results23, go_sem]) rfl ⟨r, by rw [L2.out], HB3.out, HR.out⟩
    · have e1 : (EB == 0) = false := beq_eq_false_iff_ne.2 hEB
      have e2 : decide (EB = 0) = false := decide_eq_false hEB
      have HR : Hid ((false = true) ↔ L = 0 ∧ copyF A = copyF B) := ⟨(fun h => by cases h), fun h => absurd (L2.out.symm.trans h.1) hEB⟩
      go_wp2_with fail
      refine bodyPost_ret (v := .tuple #[.bool false, .int .i64 EB]) (by simp [results, Try.results23, go_sem]) rfl ⟨false, by rw [L2.out], HB2.out.trans ((one_belowS _ _).mono HB2.out.size), HR.out⟩
  · have L2 : Hid (L = EA) := by show _ = _; rw [LE.out, if_neg hEA]
    have e1 : (EA == 0) = false := beq_eq_false_iff_ne.2 hEA
    have e2 : decide (EA = 0) = false := decide_eq_false hEA
    have HR : Hid ((false = true) ↔ L = 0 ∧ copyF A = copyF B) := ⟨(fun h => by cases h), fun h => absurd (L2.out.symm.trans h.1) hEA⟩
    go_wp2_with fail
    refine bodyPost_ret (v := .tuple #[.bool false, .int .i64 EA]) (by simp [results, Try.results23, go_sem]) rfl ⟨false, by rw [L2.out], HB.out.trans ((one_belowS _ _).mono HB.out.size), HR.out⟩
end Go.Proofs.Ytgjfmepbphfjoaa
