/-
  A root for a node: Make with all that is known of the new memory; right stores stay right.
-/
import Derived.Test.YtgjfmepbphfjoaaGreatUZaTl
import Derived.Test.YtgjfmepbphfjoaaGreatUTmTnZpLb
namespace Go.Proofs.YtgjfmepbphfjoaaGreat
open Go.RowKit

/-- A store in a row of its own, the lists of children in rows further on. -/
def OwnR (w : World) (g : Nat) (S : List Nd) : Prop :=
  ∃ F, w.rowIs g 47 (S.length * 8) F ∧ ∀ i, i < S.length → ∃ kb kc, NdR w F (i * 8) (nd S i) kb kc ∧ g < kb

theorem OwnR.nds {w : World} {g : Nat} {S : List Nd} (h : OwnR w g S) : NdsAt w (some ⟨g, 0, none⟩) S := fun i hi => by
  obtain ⟨F, hF, hN⟩ := h
  obtain ⟨kb, kc, ⟨e0, e1, e2, e3, e4, e5, e6, e7, e8, e8b, G, hG, e9⟩, _⟩ := hN i hi
  refine ⟨g, 0, rfl, ?_⟩
  rw [Nat.zero_add]
  refine ⟨?_, ?_, ?_, ?_, ?_, ⟨some ⟨kb, 0, none⟩, kc, ?_, fun j hj => ⟨kb, 0, rfl, ?_⟩⟩, ?_, ?_⟩
  · rw [hF.cell (by omega), e0]
  · rw [hF.cell (by omega), e1]
  · rw [hF.cell (by omega), e2]
  · rw [hF.cell (by omega), e3]
  · rw [hF.cell (by omega), e4]
  · rw [hF.cell (by omega), e5]
  · rw [Nat.zero_add, hG.cell (by omega), e9 j hj]
  · rw [hF.cell (by omega), e6]
  · rw [hF.cell (by omega), e7]

theorem OwnR.up {w w3 : World} {g : Nat} {S : List Nd} (h : OwnR w g S) (hup : ∀ b, g ≤ b → b < w.heap.size → w3.heap[b]? = w.heap[b]?) : OwnR w3 g S := by
  obtain ⟨F, hF, hN⟩ := h
  refine ⟨F, hF.of_block (hup g (Nat.le_refl _) hF.lt), fun i hi => ?_⟩
  obtain ⟨kb, kc, ⟨e0, e1, e2, e3, e4, e5, e6, e7, e8, e8b, G, hG, e9⟩, hk⟩ := hN i hi
  exact ⟨kb, kc, ⟨e0, e1, e2, e3, e4, e5, e6, e7, e8, e8b, G, hG.of_block (hup kb (Nat.le_of_lt hk) hG.lt), e9⟩, hk⟩

/-- Host and Closed of one node set. -/
theorem OwnR.root {w : World} {g : Nat} {S : List Nd} {k : Nat} (h : OwnR w g S) (hk : k < S.length) (hh : Int) (cc : Bool) :
    OwnR ((w.setCell ⟨g, k * 8 + 6, none⟩ (.int .i64 hh)).setCell ⟨g, k * 8 + 7, none⟩ (.bool cc)) g (S.set k { nd S k with h := hh, c := cc }) := by
  obtain ⟨F, hF, hN⟩ := h
  refine ⟨_, by rw [List.length_set]; exact (hF.set (k * 8 + 6) (.int .i64 hh)).set (k * 8 + 7) (.bool cc), fun i hi => ?_⟩
  rw [List.length_set] at hi
  obtain ⟨kb, kc, ⟨e0, e1, e2, e3, e4, e5, e6, e7, e8, e8b, G, hG, e9⟩, hkb⟩ := hN i hi
  have hG2 := (hG.setOther (a := ⟨g, k * 8 + 6, none⟩) (by simp; omega) (.int .i64 hh)).setOther (a := ⟨g, k * 8 + 7, none⟩) (by simp; omega) (.bool cc)
  refine ⟨kb, kc, ?_, hkb⟩
  rw [nd_set S k i _ hk]
  by_cases e : i = k
  · subst e
    rw [if_pos rfl]
    refine ⟨?_, ?_, ?_, ?_, ?_, ?_, ?_, ?_, e8, e8b, G, hG2, e9⟩
    all_goals dsimp only
    · rw [if_neg (by omega), if_neg (by omega), e0]
    · rw [if_neg (by omega), if_neg (by omega), e1]
    · rw [if_neg (by omega), if_neg (by omega), e2]
    · rw [if_neg (by omega), if_neg (by omega), e3]
    · rw [if_neg (by omega), if_neg (by omega), e4]
    · rw [if_neg (by omega), if_neg (by omega), e5]
    · rw [if_neg (by omega), if_pos rfl]
    · rw [if_pos rfl]
  · rw [if_neg e]
    refine ⟨?_, ?_, ?_, ?_, ?_, ?_, ?_, ?_, e8, e8b, G, hG2, e9⟩
    all_goals
      dsimp only
      rw [if_neg (by omega), if_neg (by omega)]
      assumption

set_option maxHeartbeats 1000000 in
theorem make_own (a : Option Addr) (c : Nat) (S : List Nd) (t : Int) (w : World) (hN : S.length ≤ 24) (hK : ∀ i, i < S.length → (nd S i).ks.length ≤ 1000) (hS : NdsAt w a S) (hC : checkE S = 0) (ht0 : 0 ≤ t) (ht1 : t ≤ 99) (k : Nat) (hk : k < S.length) (hfr : freeB (nd S k) = true) (h0 : 0 ≤ (nd S k).n) (hall : ∀ i, i < k → freeB (nd S i) = false) :
    Calls Tryz.prog 101 #[.agg #[.slice a S.length c], .int .i64 t] w fun e w' => ∃ g, e = .returned (.tuple #[.agg #[.slice (some ⟨g, 0, none⟩) S.length S.length], .agg #[.int .i64 k, .int .i64 ((nd S k).n + 1)], .int .i64 0]) ∧ Below w.heap.size w w' ∧ w.heap.size ≤ g ∧ OwnR w' g (S.set k (madeNd (nd S k) t)) := by
  have h2 : (nd S k).n < 1000000 := by
    unfold freeB at hfr
    simp at hfr
    exact hfr.2
  have HS : Hid (NdsAt w a S) := hS
  have df := fun (W : World) (hW : NdsAt W a S) => firstFree_at a c S W (by omega) hW k hk hfr hall
  have DF : Hid _ := df
  have dc := fun (W : World) (hW : NdsAt W a S) => copy_any a c S W hN hK hW
  have DC : Hid _ := dc
  have d0 := fun W hW => check_any a c S W (by omega) (fun i hi => Nat.le_trans (hK i hi) (by omega)) hW
  rw [hC] at d0
  have D0 : Hid _ := d0
  have TU : Hid (∀ (w w' : World) (B g : Nat) (kb kc : Nat → Nat) (h : Own w B g S kb kc S.length) (F' : Nat → Value) (hF : w'.rowIs g 47 (S.length * 8) F')
    (hN : ∀ F, w.rowIs g 47 (S.length * 8) F → (∀ i, i < S.length → NdR w F (i * 8) (nd S i) (kb i) (kc i)) → (∀ i, i < S.length → g < kb i) → ∀ i, i < S.length → ∃ kb' kc', NdR w' F' (i * 8) (nd (S.set k (madeNd (nd S k) t)) i) kb' kc' ∧ g < kb'), OwnR w' g (S.set k (madeNd (nd S k) t))) := fun w w' B g kb kc h F' hF hN => by
    obtain ⟨_, F, hF0, hN0, hg0, _⟩ := h
    exact ⟨F', by rw [List.length_set]; exact hF, fun i hi => hN F hF0 hN0 hg0 i (by rw [List.length_set] at hi; exact hi)⟩
  have SET : Hid (∀ i, nd (S.set k (madeNd (nd S k) t)) i = if i = k then madeNd (nd S k) t else nd S i) := fun i => nd_set S k i _ hk
  have OC : Hid (∀ (wr : World) (B g : Nat) (kb kc : Nat → Nat), Own wr B g S kb kc S.length → (g < wr.heap.size ∧ (∀ o, wr.frozen? ⟨g, o, none⟩ = false) ∧ (∃ F : Nat → Value, wr.rowIs g 47 (S.length * 8) F) ∧ wr.cell? ⟨g, k * 8, none⟩ = some (.bool (nd S k).u) ∧ wr.cell? ⟨g, k * 8 + 1, none⟩ = some (.int .i64 (nd S k).n) ∧ wr.cell? ⟨g, k * 8 + 2, none⟩ = some (.int .i64 (nd S k).t))) := fun wr B g kb kc h => by
    obtain ⟨_, F, hF, hNd, _⟩ := h
    obtain ⟨e0, e1, e2, _⟩ := hNd k hk
    exact ⟨hF.lt, hF.frozen, ⟨F, hF⟩, by rw [hF.cell (by omega), e0], by rw [hF.cell (by omega), e1], by rw [hF.cell (by omega), e2]⟩
  clear hS hall df dc d0 hC hK hfr
  generalize hn : S.length = n at *
  generalize hnk : (nd S k).n = nk at *
  have hk2 : (k : Int) < (n : Int) := by omega
  have hk3 : decide ((k : Int) < 0) = false := decide_eq_false (by omega)
  clear hn
  have HNK : Hid _ := hnk
  clear hnk
  go_enter Tryz.func101, Tryz.ntmps101
  go_wp2_with (go_at_call 20; refine (D0.out _ (HS.out.below (three_below _ _ _ _))).mono ?_; rintro e w0 ⟨rfl, hb0⟩; simp only [World.size_alloc] at hb0; obtain ⟨l0, l1, l2, l3, z1, z2, z3⟩ := make_low hb0; have hB0 : Below w.heap.size w w0 := (three_below _ _ _ _).trans (hb0.mono (by omega)))
  go_wp2_with (go_at_call 54; refine (within_yes _ _ _ _ (by omega) (by omega)).mono ?_; rintro e w' ⟨rfl, rfl⟩)
  refine (DF.out _ (HS.out.below hB0)).mono ?_
  rintro e w1 ⟨rfl, hb1'⟩
  have hs0 := hb0.size
  simp only [World.size_alloc] at hs0
  have hb1 := hb0.trans (hb1'.mono hs0)
  have hB1 : Below w.heap.size w w1 := (three_below _ _ _ _).trans (hb1.mono (by omega))
  clear l0 l1 l2 l3 z1 z2 z3 hb0 hb1' hB0
  obtain ⟨l0, l1, l2, l3, z1, z2, z3⟩ := make_low hb1
  go_wp2_with fail
  refine (DC.out _ (HS.out.below hB1)).mono ?_
  rintro e w2 ⟨g, kb, kc, rfl, hb2, hO2⟩
  have hs1 := hb1.size
  simp only [World.size_alloc] at hs1
  have hb12 := hb1.trans (hb2.mono hs1)
  obtain ⟨m0, m1, m2, m3, y1, y2, y3⟩ := make_low hb12
  obtain ⟨hgl, hfz, ⟨F, hF⟩, d0, d1, d2⟩ := OC.out _ _ _ _ _ hO2
  have hgge : w1.heap.size ≤ g := hO2.1
  have hgge2 : w.heap.size + 1 + 1 < g := by omega
  have HO2 : Hid (Own w2 w1.heap.size g S kb kc n) := hO2
  have HB : Hid (Below (w.heap.size + 1 + 1 + 1) (((w.alloc (.cells #[.slice a n c] 24)).alloc (.cells #[.slice none 0 0] 24)).alloc (.cells #[.int .i64 0, .int .i64 0] 39)) w2) := hb12
  have HF : Hid (w2.rowIs g 47 (n * 8) F) := hF
  clear hO2 hF l0 l1 l2 l3 z1 z2 z3 hb1 hb2 hb12
  go_wp2
  obtain ⟨W3, hW3⟩ : ∃ W3, W3 = (((w2.setCell ⟨g, k * 8, none⟩ (Value.bool true)).setCell ⟨g, k * 8 + 1, none⟩ (Value.int IntKind.i64 (nk + 1))).setCell ⟨g, k * 8 + 2, none⟩ (Value.int IntKind.i64 t)).alloc (Obj.cells #[Value.slice (some ⟨g, 0, none⟩) n n] 24) := ⟨_, rfl⟩
  rw [← hW3]
  have q8 : W3.cell? ⟨w2.heap.size, 0, none⟩ = some (.slice (some ⟨g, 0, none⟩) n n) := by rw [hW3]; go_simp
  have q1 : W3.cell? ⟨g, k * 8 + 1, none⟩ = some (.int .i64 (nk + 1)) := by rw [hW3]; go_simp
  have hsz : W3.heap.size = w2.heap.size + 1 := by rw [hW3]; simp
  have hb3 : Below (w.heap.size + 1 + 1 + 1) (((w.alloc (.cells #[.slice a n c] 24)).alloc (.cells #[.slice none 0 0] 24)).alloc (.cells #[.int .i64 0, .int .i64 0] 39)) W3 := by
    rw [hW3]
    exact (((HB.out.setCell (by simp; omega) _).setCell (by simp; omega) _).setCell (by simp; omega) _).alloc (by simp; omega) _
  clear m0 m1 m2 m3 y1 y2 y3 d0 d1 d2 hfz
  obtain ⟨m0, m1, m2, m3, y1, y2, y3⟩ := make_low hb3
  have HB3 : Hid (Below (w.heap.size + 1 + 1 + 1) (((w.alloc (.cells #[.slice a n c] 24)).alloc (.cells #[.slice none 0 0] 24)).alloc (.cells #[.int .i64 0, .int .i64 0] 39)) W3) := hb3
  have HW3 : Hid (W3 = (((w2.setCell ⟨g, k * 8, none⟩ (Value.bool true)).setCell ⟨g, k * 8 + 1, none⟩ (Value.int IntKind.i64 (nk + 1))).setCell ⟨g, k * 8 + 2, none⟩ (Value.int IntKind.i64 t)).alloc (Obj.cells #[Value.slice (some ⟨g, 0, none⟩) n n] 24)) := hW3
  have HSZ : Hid (W3.heap.size = w2.heap.size + 1) := hsz
  clear hb3 hW3 HB hsz
  go_region
  all_goals (try go_wp2)
  refine bodyPost_ret (v := .tuple #[.agg #[.slice (some ⟨g, 0, none⟩) n n], .agg #[.int .i64 k, .int .i64 (nk + 1)], .int .i64 0]) (by simp [results, Tryz.results101, go_sem, m1, m2, m3]) rfl ⟨g, rfl, ?_, by omega, ?_⟩
  · have hbo : Below w.heap.size w W3 := (three_below _ _ _ _).trans (HB3.out.mono (by omega))
    exact (((hbo.setCell (by simp) _).setCell (by simp; omega) _).setCell (by simp; omega) _).drew
  · have hr3 := (((HF.out.set (k * 8) (.bool true)).set (k * 8 + 1) (.int .i64 (nk + 1))).set (k * 8 + 2) (.int .i64 t)).alloc (Obj.cells #[Value.slice (some ⟨g, 0, none⟩) n n] 24)
    rw [← HW3.out] at hr3
    have hr4 := (((hr3.setOther (a := ⟨w.heap.size + 1, 0, none⟩) (by simp; omega) (.slice (some ⟨g, 0, none⟩) n n)).setOther (a := ⟨w.heap.size + 1 + 1, 0, none⟩) (by simp; omega) (.int .i64 k)).setOther (a := ⟨w.heap.size + 1 + 1, 1, none⟩) (by simp; omega) (.int .i64 (nk + 1))).drew
    refine TU.out w2 _ _ g kb kc HO2.out _ hr4 (fun F0 hF0 hN0 hg0 i hi => ⟨kb i, kc i, ?_, hg0 i hi⟩)
    have hFF : ∀ j, j < n * 8 → F j = F0 j := fun j hj => by
      have h1 := HF.out.cell hj
      rw [hF0.cell hj] at h1
      exact (Option.some.inj h1).symm
    have hgi := hg0 i hi
    obtain ⟨e0, e1, e2, e3, e4, e5, e6, e7, e8, e8b, G, hG, e9⟩ := hN0 i hi
    have hG3 := (((hG.setOther (a := ⟨g, k * 8, none⟩) (by simp; omega) (.bool true)).setOther (a := ⟨g, k * 8 + 1, none⟩) (by simp; omega) (.int .i64 (nk + 1))).setOther (a := ⟨g, k * 8 + 2, none⟩) (by simp; omega) (.int .i64 t)).alloc (Obj.cells #[Value.slice (some ⟨g, 0, none⟩) n n] 24)
    rw [← HW3.out] at hG3
    have hG4 := (((hG3.setOther (a := ⟨w.heap.size + 1, 0, none⟩) (by simp; omega) (.slice (some ⟨g, 0, none⟩) n n)).setOther (a := ⟨w.heap.size + 1 + 1, 0, none⟩) (by simp; omega) (.int .i64 k)).setOther (a := ⟨w.heap.size + 1 + 1, 1, none⟩) (by simp; omega) (.int .i64 (nk + 1))).drew
    rw [SET.out i]
    by_cases e : i = k
    · subst e
      rw [if_pos rfl]
      unfold madeNd
      refine ⟨?_, ?_, ?_, ?_, ?_, ?_, ?_, ?_, e8, e8b, G, hG4, e9⟩
      all_goals dsimp only
      · rw [if_neg (by omega), if_neg (by omega), if_pos rfl]
      · rw [if_neg (by omega), if_pos rfl, HNK.out]
      · rw [if_pos rfl]
      · rw [if_neg (by omega), if_neg (by omega), if_neg (by omega), hFF _ (by omega), e3]
      · rw [if_neg (by omega), if_neg (by omega), if_neg (by omega), hFF _ (by omega), e4]
      · rw [if_neg (by omega), if_neg (by omega), if_neg (by omega), hFF _ (by omega), e5]
      · rw [if_neg (by omega), if_neg (by omega), if_neg (by omega), hFF _ (by omega), e6]
      · rw [if_neg (by omega), if_neg (by omega), if_neg (by omega), hFF _ (by omega), e7]
    · rw [if_neg e]
      refine ⟨?_, ?_, ?_, ?_, ?_, ?_, ?_, ?_, e8, e8b, G, hG4, e9⟩
      all_goals
        dsimp only
        rw [if_neg (by omega), if_neg (by omega), if_neg (by omega), hFF _ (by omega)]
        assumption

/-- The root that Attach makes. -/
def rootNd (x : Nd) (k : Nat) (cl : Bool) : Nd := { madeNd x 0 with h := (k : Int), c := cl }

theorem WF.no_under {S : List Nd} (h : WF S) {f : Nat} (hf : f < S.length) (hu : (nd S f).u = false) {i a : Nat} (hi : i < S.length) (ha : Up S a i f) : a = 0 := by
  obtain ⟨t0, m0, p0, k0, h0, c0⟩ := h.unused hf hu
  cases a with
  | zero => rfl
  | succ a =>
    exfalso
    have key : ∀ (a i : Nat), i < S.length → Up S (a + 1) i f → False := by
      intro a
      induction a with
      | zero =>
        rintro i hi ⟨z, hz, hr, e⟩
        have e' : z = f := e
        subst e'
        unfold rightUnder at hr
        by_cases e1 : (nd S i).h = -1
        · rw [if_pos e1] at hr
          have hp : (nd S i).p ≠ -1 := by omega
          obtain ⟨pa, e2, _, _, _, e3⟩ := h.parent_place hi hp
          have : pa = z := by omega
          rw [this, hu] at e3
          cases e3
        · rw [if_neg e1] at hr
          have := (h.hosts i hi e1).1
          rw [hr, Int.toNat_natCast, hu] at this
          cases this
      | succ a ih =>
        rintro i hi ⟨z, hz, hr, e⟩
        exact ih z hz e
    exact key a i hi ha

theorem WF.attach {S : List Nd} (h : WF S) {f k : Nat} (cl : Bool) (hf : f < S.length) (hfr : freeB (nd S f) = true) (hk : k < S.length) (hku : (nd S k).u = true) (hH : hostB S k = false) : WF (S.set f (rootNd (nd S f) k cl)) := by
  obtain ⟨hu, hn⟩ := free_parts hfr
  obtain ⟨t0, m0, p0, k0, h0, c0⟩ := h.unused hf hu
  obtain ⟨n0, n1, _⟩ := h.uses hf
  have hkf : k ≠ f := fun e => by rw [e, hu] at hku; cases hku
  have hHk := hostB_false.1 hH
  have hl : (S.set f (rootNd (nd S f) k cl)).length = S.length := by simp
  have hnd : ∀ i, nd (S.set f (rootNd (nd S f) k cl)) i = if i = f then rootNd (nd S f) k cl else nd S i := fun i => nd_set S f i _ hf
  refine ⟨by rw [hl]; exact h.small, fun i hi => ?_, kidsOk_of (fun i hi => ?_) (fun i hi x hx => ?_) (fun j hj hjp => ?_), fun i hi => ?_, fun i hi => ?_⟩
  · rw [hl] at hi ⊢
    rw [hnd]
    split
    · refine node_of ?_ (names_mk ?_ ?_ (fun y hy => absurd hy (by unfold rootNd madeNd; dsimp only; rw [k0]; simp))) ?_
      · unfold rangeB rootNd madeNd
        simp only [Bool.and_eq_true, decide_eq_true_eq]
        exact ⟨⟨by omega, by omega⟩, ⟨by omega, by omega⟩, by rw [m0]; omega, by rw [m0]; omega⟩
      · unfold rootNd madeNd okPl
        exact decide_eq_true ⟨by dsimp only; omega, by dsimp only; omega⟩
      · unfold rootNd madeNd okPl
        exact decide_eq_true ⟨by dsimp only; omega, by dsimp only; omega⟩
      · unfold formB rootNd madeNd
        simp only [if_true]
        rw [if_neg (by omega), if_neg (by omega)]
        exact decide_eq_true p0
    · exact h.node i hi
  · rw [hl] at hi
    rw [hnd]
    split
    · unfold rootNd madeNd
      dsimp only
      rw [k0]
      exact List.nodup_nil
    · exact h.kids_nodup hi
  · rw [hl] at hi ⊢
    rw [hnd] at hx
    split at hx
    · unfold rootNd madeNd at hx
      dsimp only at hx
      rw [k0] at hx
      cases hx
    · obtain ⟨y, rfl, y1, y2, y3, _⟩ := h.kid hi hx
      have hyf : y ≠ f := fun e => by rw [e, hu] at y2; cases y2
      exact ⟨y, rfl, y1, by rw [hnd, if_neg hyf]; exact y2, by rw [hnd, if_neg hyf]; exact y3⟩
  · rw [hl] at hj ⊢
    rw [hnd] at hjp
    split at hjp
    · exact absurd (show (rootNd (nd S f) k cl).p = -1 from p0) hjp
    · obtain ⟨i, i1, i2, _, i3, _⟩ := h.parent_place hj hjp
      refine ⟨i, i2, ?_⟩
      rw [hnd]
      split
      · rename_i e
        subst e
        rw [k0] at i3
        cases i3
      · exact i3
  · rw [hl] at hi
    intro hh
    by_cases e : i = f
    · subst e
      have hii : (nd (S.set i (rootNd (nd S i) k cl)) i).h = (k : Int) := by rw [hnd, if_pos rfl]; rfl
      rw [hii, Int.toNat_natCast]
      refine ⟨by rw [hnd, if_neg hkf]; exact hku, fun i' hi' => ?_⟩
      rw [hnd, if_neg (by omega)]
      exact hHk i' (by omega)
    · have hii : nd (S.set f (rootNd (nd S f) k cl)) i = nd S i := by rw [hnd, if_neg e]
      rw [hii] at hh ⊢
      obtain ⟨g1, g2⟩ := h.hosts i hi hh
      refine ⟨?_, fun i' hi' => ?_⟩
      · rw [hnd]
        split
        · rfl
        · exact g1
      · rw [hnd]
        split
        · exact fun e2 => hHk i hi e2.symm
        · exact g2 i' hi'
  · rw [hl] at hi
    have hr : ∀ y, y < S.length → y ≠ f → rightUnder (nd (S.set f (rootNd (nd S f) k cl)) y) = rightUnder (nd S y) := fun y _ e => by rw [hnd, if_neg e]
    have hrf : rightUnder (nd (S.set f (rootNd (nd S f) k cl)) f) = k := by
      rw [hnd, if_pos rfl]
      unfold rightUnder rootNd madeNd
      dsimp only
      rw [if_neg (by omega)]
    have noto : ∀ (j x : Nat), x < S.length → x ≠ f → ¬ Up (S.set f (rootNd (nd S f) k cl)) j x f := fun j x hx hxf hu2 => by
      rcases up_first hl hr hx hu2 with g | ⟨a, m, _, g, _⟩
      · have := h.no_under hf hu hx g
        subst this
        exact hxf g
      · have := h.no_under hf hu hx g
        subst this
        exact hxf g
    cases hb : underB (S.set f (rootNd (nd S f) k cl)) i i with
    | false => rfl
    | true =>
      obtain ⟨j, j1, j2, j3⟩ := under_up (by rw [hl]; exact hi) hb
      rw [hl] at j2
      by_cases e : i = f
      · subst e
        obtain ⟨j', rfl⟩ : ∃ j', j = j' + 1 := ⟨j - 1, by omega⟩
        obtain ⟨z, hz, hrz, hz2⟩ := j3
        rw [hrf] at hrz
        have : z = k := by omega
        subst this
        exact absurd hz2 (noto j' z hk hkf)
      · rcases up_first hl hr hi j3 with g | ⟨a, m, _, g, _⟩
        · exact absurd g (h.no_ring hi j1 j2)
        · have := h.no_under hf hu hi g
          subst this
          exact absurd g e
end Go.Proofs.YtgjfmepbphfjoaaGreat
