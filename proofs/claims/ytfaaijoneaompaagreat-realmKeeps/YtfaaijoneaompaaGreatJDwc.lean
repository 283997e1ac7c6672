/-
  copyRealm.
-/
import Derived.Test.YtfaaijoneaompaaGreatJMwMxDwb
import Derived.Test.YtfaaijoneaompaaGreatJZhDf
import Derived.Deep.RegionHeld3
namespace Go.Proofs.YtfaaijoneaompaaGreat
open Go.RowKit Go.ChangeShapes Go.WideShapes
set_option linter.unusedVariables false

theorem gright_few {G : List Cl} (h : gcheckE G = 0) : ∀ i, i < G.length → (cl G i).ks.length ≤ 1000 := fun i hi => by
  unfold gcheckE at h
  split at h
  · omega
  · have := cells_zero_at h i hi
    unfold cellE at this
    split at this
    · omega
    · split at this
      · omega
      · omega
theorem own_ownR {w : World} {B g : Nat} {S : List Nd} {kb kc : Nat → Nat} (h : Own w B g S kb kc S.length) : OwnR w g S := by
  obtain ⟨_, F, hF, hN, hg, _⟩ := h
  exact ⟨F, hF, fun i hi => ⟨kb i, kc i, hN i hi, hg i hi⟩⟩
/-- A store further on than h stays so, whatever becomes of h. -/
theorem OwnR.st {w : World} {g h : Nat} {S : List Nd} (o : OwnR w g S) (hg : h < g) : St (fun b => b = h) (fun V => NdsAt V (some ⟨g, 0, none⟩) S) w := fun w' ho => (o.up (fun b hb hb2 => ho.block b hb2 (fun e => by omega))).nds
/-- The cells of hands. -/
def hcL (hs : List (Int × Int)) : List Value := (List.range (hs.length * 2)).map (hcF hs)
theorem hcL_len (hs : List (Int × Int)) : (hcL hs).length = hs.length * 2 := by simp [hcL]
theorem hcL_at {hs : List (Int × Int)} {j : Nat} {v : Value} (h : (hcL hs)[j]? = some v) : j < hs.length * 2 ∧ v = hcF hs j := by
  obtain ⟨hl, hv⟩ := List.getElem?_eq_some_iff.1 h
  have hl2 := hl
  rw [hcL_len] at hl2
  refine ⟨hl2, ?_⟩
  rw [← hv]
  simp [hcL]
theorem hcL_one (hs : List (Int × Int)) : ∀ v ∈ hcL hs, v.oneCell' = true := fun v hv => by
  obtain ⟨j, _, rfl⟩ := List.mem_map.1 hv
  rfl
theorem hands_src {w : World} {a : Option Addr} {hs : List (Int × Int)} (h : HandsAt w a hs) : ∀ ad, a = some ad → ∀ j v, (hcL hs)[j]? = some v → w.cell? (ad.add j) = some v := fun ad e j v hj => by
  obtain ⟨hl, rfl⟩ := hcL_at hj
  obtain ⟨b, o, e2, h1, h2⟩ := h (j / 2) (by omega)
  rw [e] at e2
  cases e2
  rw [Addr.add_lit]
  by_cases hp : j % 2 = 0
  · have : j = j / 2 * 2 := by omega
    rw [show o + j = o + j / 2 * 2 by omega, h1]
    unfold hcF
    rw [if_pos hp]
  · rw [show o + j = o + j / 2 * 2 + 1 by omega, h2]
    unfold hcF
    rw [if_neg hp]
theorem hands_cells {w : World} {h : Nat} {hs : List (Int × Int)} (e : w.heap[h]? = some (.cells (hcL hs).toArray 45 (0, 0))) : w.rowIs h 45 (hs.length * 2) (hcF hs) := by
  refine ⟨_, e, ?_, fun i hi => ?_⟩
  · simp [hcL_len]
  · simp [hcL, hi]
theorem ints_src {w : World} {a : Option Addr} {l : List Int} (h : IntsAt w a l) : ∀ ad, a = some ad → ∀ j v, (l.map (Value.int .i64))[j]? = some v → w.cell? (ad.add j) = some v := fun ad e j v hj => by
  obtain ⟨hl, hv⟩ := List.getElem?_eq_some_iff.1 hj
  obtain ⟨b, o, e2, h1⟩ := h j (by simpa using hl)
  rw [e] at e2
  cases e2
  rw [List.getElem_map] at hv
  rw [getD_elem l 0 (by simpa using hl), hv] at h1
  rw [Addr.add_lit]
  exact h1
theorem ints_nilW {w : World} {a : Option Addr} {l : List Int} (h : IntsAt w a l) : a = none → l.length = 0 := fun e => by
  subst e
  cases hl : l.length with
  | zero => rfl
  | succ n => obtain ⟨b, o, e2, _⟩ := h 0 (by omega); cases e2
theorem ints_cells {w : World} {g t : Nat} {l : List Int} (e : w.heap[g]? = some (.cells (l.map (Value.int .i64)).toArray t (0, 0))) : IntsAt w (some ⟨g, 0, none⟩) l := fun i hi => by
  refine ⟨g, 0, rfl, ?_⟩
  rw [Nat.zero_add]
  simp [World.cell?, e, hi]

theorem ci_of {w V2 V3 V4 X : World} {R : Rl} {t h g gg z : Nat} {kb kc : Nat → Nat} (c0 c1 c2 c3 : Nat) (b2 : Below w.heap.size w V2) (h0 : w.heap.size ≤ h) (hr : V2.heap[h]? = some (.cells (hcL R.hs).toArray 45 (0, 0))) (tt : V2.heap[t]? = some (.cells (R.t.map (Value.int .i64)).toArray 3 (0, 0))) (th : t ≠ h)
    (b3 : Below V2.heap.size V2 V3) (o3 : Own V3 V2.heap.size g R.s kb kc R.s.length) (b4 : Below V3.heap.size V3 V4) (c4 : ClsSt (fun b => b < V3.heap.size) V4 (some ⟨gg, 0, none⟩) R.i) (zh : z ≠ h) (zt : z ≠ t) (zl : z < V2.heap.size) (hX : OffX (fun b => b = z) V4 X) (bX : Below w.heap.size w X) :
    CI w R h g ⟨some ⟨g, 0, none⟩, some ⟨h, 0, none⟩, some ⟨gg, 0, none⟩, some ⟨t, 0, none⟩, c0, c1, c2, c3⟩ X := by
  have hl := box_lt hr
  have tl := box_lt tt
  have s2 := b2.size
  have s3 := b3.size
  have s4 := b4.size
  have gl : g < V3.heap.size := by obtain ⟨_, F, hF, _⟩ := o3; exact hF.lt
  have g0 : V2.heap.size ≤ g := o3.1
  have oX : OwnR X g R.s := ((own_ownR o3).up (fun b _ h2 => b4.block b h2)).up (fun b h1 h2 => hX.block b h2 (by show ¬ b = z; omega))
  refine ⟨bX, h0, by omega, by omega, rfl, rfl, hands_cells ?_, oX, oX.st (by omega), ?_, fun X' ho => ints_cells (t := 3) ?_⟩
  · exact (hX.block h (by omega) (by show ¬ h = z; omega)).trans (keepB (keepB hr b3) b4)
  · exact St.less (St.off (X := fun b => b < V3.heap.size) c4 (hX.mono (fun b hb => by show b < V3.heap.size; have : b = z := hb; omega))) (fun b hb => by show b < V3.heap.size; have : b = h ∨ b = g := hb; omega)
  · have e := (hX.block t (by omega) (by show ¬ t = z; omega)).trans (keepB (keepB tt b3) b4)
    exact (ho.block t (box_lt e) (by show ¬ (t = h ∨ t = g); omega)).trans e

set_option maxRecDepth 100000 in
set_option maxHeartbeats 4000000 in
theorem crealm_any (A : RA) (R : Rl) (w : World) (hR : rcheckE R = 0) (hW : RlAt w A R) :
    Calls Tryz.prog 13 #[rlV A R] w fun e w' => ∃ (B : RA) (h g : Nat), e = .returned (rlV B R) ∧ CI w R h g B w' := by
  obtain ⟨a0, a1, a2, a3, c0, c1, c2, c3⟩ := A
  obtain ⟨wf, hl, hgc, ht⟩ := rcheck_parts hR
  have hgb := gright_big hgc
  obtain ⟨w0, w1, w2, w3⟩ := hW
  have D0 : Hid (∀ W, Below w.heap.size w W → _) := fun W hW => YtfaaijoneaompaaGreat.copy_any a0 c0 R.s W wf.small (kids_1000 wf) (w0.below hW)
  have D1 : Hid (∀ W, Below w.heap.size w W → _) := fun W hW => cgraph_any a2 c2 R.i W (by omega) (gright_few hgc) (w2.below hW)
  have SH : Hid (∀ W, Below w.heap.size w W → ∀ ad, a1 = some ad → ∀ j v, (hcL R.hs)[j]? = some v → W.cell? (ad.add j) = some v) := fun W hW => hands_src (w1.below hW)
  have NH : Hid (a1 = none → 16 = 0) := fun e => by
    obtain ⟨b, o, e2, _⟩ := w1 0 (by omega)
    rw [e] at e2
    cases e2
  have LH : Hid ((hcL R.hs).length = 16 * 2) := by show _ = _; rw [hcL_len, hl]
  have OH : Hid _ := hcL_one R.hs
  have ST : Hid (∀ W, Below w.heap.size w W → ∀ ad, a3 = some ad → ∀ j v, (R.t.map (Value.int .i64))[j]? = some v → W.cell? (ad.add j) = some v) := fun W hW => ints_src (w3.below hW)
  have NT : Hid (a3 = none → R.t.length = 0) := ints_nilW w3
  have LT : Hid ((R.t.map (Value.int .i64)).length = R.t.length * 1) := by show _ = _; simp
  have OT : Hid (∀ v ∈ R.t.map (Value.int .i64), v.oneCell' = true) := fun v hv => by obtain ⟨y, _, rfl⟩ := List.mem_map.1 hv; rfl
  have HL : Hid (R.hs.length = 16) := hl
  dsimp only [rlV]
  rw [hl]
  obtain ⟨nt, hnt⟩ : ∃ n, R.t.length = n := ⟨_, rfl⟩
  have HNT : Hid (R.t.length = nt) := hnt
  rw [hnt] at NT LT ht ⊢
  obtain ⟨ns, hns⟩ : ∃ n, R.s.length = n := ⟨_, rfl⟩
  have HNS : Hid (R.s.length = ns) := hns
  rw [hns] at D0 ⊢
  obtain ⟨ni, hni⟩ : ∃ n, R.i.length = n := ⟨_, rfl⟩
  have HNI : Hid (R.i.length = ni) := hni
  rw [hni] at D1 ⊢
  clear hns hni hnt hl hgc hgb wf w0 w1 w2 w3 hR
  have hmk := makeHands16
  have hmi := makeIntsK nt (by omega)
  obtain ⟨i0, hi0, hz0, hz1, hz2⟩ := info_parts infoHandD
  obtain ⟨i1, hi1, hy0, hy1, hy2⟩ := info_parts infoK
  have HG : Hid (∀ o1 o2 : Obj, (((w.alloc o1).alloc o2).alloc (.cells (madeCells #[.int .i64 0, .int .i64 0] 32) 45)).heap[w.heap.size + 1 + 1]? = some (.cells (madeCells #[.int .i64 0, .int .i64 0] 32).toList.toArray 45 (0, 0))) := fun o1 o2 => by
    have := heap_alloc_new ((w.alloc o1).alloc o2) (.cells (madeCells #[.int .i64 0, .int .i64 0] 32) 45)
    simpa using this
  have HGT : Hid (∀ W : World, (W.alloc (.cells (madeCells #[.int .i64 0] nt) 3)).heap[W.heap.size]? = some (.cells (madeCells #[.int .i64 0] nt).toList.toArray 3 (0, 0))) := fun W => by
    have := heap_alloc_new W (.cells (madeCells #[.int .i64 0] nt) 3)
    simpa using this
  obtain ⟨hq, hhq⟩ : ∃ q, hcL R.hs = q := ⟨_, rfl⟩
  have HHQ : Hid (hcL R.hs = hq) := hhq
  rw [hhq] at SH LH OH
  clear hhq
  obtain ⟨tq, htq⟩ : ∃ q, R.t.map (Value.int .i64) = q := ⟨_, rfl⟩
  have HTQ : Hid (R.t.map (Value.int .i64) = tq) := htq
  rw [htq] at ST LT OT
  clear htq
  go_enter Tryz.func13, Tryz.ntmps13
  go_wp2_with (refine wpList_copy_rows rfl (.tmp 9) (.tmp 11) 25 25 rfl 45 i0 2 Tryz.underlying25 hi0 hz1 (w.heap.size + 1 + 1) 16 16 a1 c1 rfl rfl (madeCells #[.int .i64 0, .int .i64 0] 32).toList 45 (HG.out _ _) hq LH.out (by simp [size_madeCells]) NH.out (SH.out _ ((two_belowS _ _ _).alloc (by simp; omega) _)) OH.out ?_)
  intro V1 hw hb
  have B1 : Hid (Below w.heap.size w V1) := hb.out _ _ ((two_belowS _ _ _).alloc (by simp; omega) _) (by omega)
  have B1' : Hid (Below (w.heap.size + 1 + 1) ((w.alloc (.cells #[.slice a0 ns c0, .slice a1 16 c1, .slice a2 ni c2, .slice a3 nt c3] 31)).alloc (.cells #[.slice none 0 0, .slice none 0 0, .slice none 0 0, .slice none 0 0] 31)) V1) := hb.out _ _ ((Below.refl _ _).alloc (by simp) _) (by omega)
  have H1 : Hid (V1.heap[w.heap.size + 1 + 1]? = some (.cells hq.toArray 45 (0, 0))) := hw.out
  have XR : Hid (V1.heap[w.heap.size]? = some (.cells #[.slice a0 ns c0, .slice a1 16 c1, .slice a2 ni c2, .slice a3 nt c3] 31 (0, 0))) := (B1'.out.block _ (by omega)).trans (keepB (box4_new _ _ _ _ _ _) (one_belowS _ _))
  have XZ : Hid (V1.heap[w.heap.size + 1]? = some (.cells #[.slice none 0 0, .slice none 0 0, .slice none 0 0, .slice none 0 0] 31 (0, 0))) := (B1'.out.block _ (by omega)).trans (by have h := box4_new (w.alloc (.cells #[.slice a0 ns c0, .slice a1 16 c1, .slice a2 ni c2, .slice a3 nt c3] 31)) 31 (.slice none 0 0) (.slice none 0 0) (.slice none 0 0) (.slice none 0 0); simpa using h)
  obtain ⟨l0, l1, l2, l3, lf, ll⟩ := box4_facts XR.out
  have s1 : w.heap.size + 1 + 1 < V1.heap.size := box_lt H1.out
  clear hw hb HG SH LH OH NH B1' hmk hi0 hz0 hz1 hz2
  go_wp2_with (refine wpList_copy_rows rfl (.tmp 17) (.tmp 19) 29 29 rfl 3 i1 1 Tryz.underlying29 hi1 hy1 V1.heap.size nt nt a3 c3 rfl rfl (madeCells #[.int .i64 0] nt).toList 3 (HGT.out _) tq LT.out (by simp [size_madeCells]) NT.out (ST.out _ (B1.out.trans ((one_belowS _ _).mono B1.out.size))) OT.out ?_)
  intro V2 hw hb
  have B2 : Hid (Below V1.heap.size V1 V2) := hb.out _ _ (one_belowS _ _) (Nat.le_refl _)
  have H2 : Hid (V2.heap[V1.heap.size]? = some (.cells tq.toArray 3 (0, 0))) := hw.out
  have s2 : V1.heap.size < V2.heap.size := box_lt H2.out
  have XR2 : Hid _ := keepB XR.out B2.out
  have XZ2 : Hid _ := keepB XZ.out B2.out
  have H12 : Hid _ := keepB H1.out B2.out
  have BW2 : Hid (Below w.heap.size w V2) := B1.out.trans (B2.out.mono B1.out.size)
  clear hw hb HGT ST LT OT NT hmi hi1 hy0 hy1 hy2 l0 l1 l2 l3 lf ll XR XZ H1 B1
  obtain ⟨l0, l1, l2, l3, lf, ll⟩ := box4_facts XR2.out
  obtain ⟨z0, z1, z2, z3, zf, zl⟩ := box4_facts XZ2.out
  go_wp2_with fail
  go_region_held3 (fun w'' => w''.cell? ⟨w.heap.size, 0, none⟩ = some (.slice a0 ns c0) ∧ w''.cell? ⟨w.heap.size, 2, none⟩ = some (.slice a2 ni c2)) (go_keep) (first | (go_at_call 38; refine Calls.mono (D0.out _ BW2.out.drew) ?_; rintro e V3 ⟨g, kb, kc, rfl, hb3, ho3⟩; have B3 : Hid (Below V2.heap.size V2 V3) := (Below.refl _ _).drew.trans hb3; have O3 : Hid (Own V3 V2.heap.size g R.s kb kc ns) := ho3; have BW3 : Hid (Below w.heap.size w V3) := BW2.out.trans (B3.out.mono BW2.out.size); have q0 := keepC l0 B3.out; have q2 := keepC l2 B3.out; have s3 : V2.heap.size ≤ V3.heap.size := B3.out.size; clear hb3 ho3) | (go_at_call 39; refine Calls.mono (D1.out _ BW3.out) ?_; rintro e V4 ⟨gg, rfl, hb4, hc4⟩; have B4 : Hid (Below V3.heap.size V3 V4) := hb4; have C4 : Hid (ClsSt (fun b => b < V3.heap.size) V4 (some ⟨gg, 0, none⟩) R.i) := hc4; have p0 := keepC q0 hb4; have p2 := keepC q2 hb4; clear hb4 hc4; have XZ4 : Hid _ := keepB (keepB XZ2.out B3.out) B4.out; obtain ⟨t0, t1, t2, t3, tf, tl⟩ := box4_facts XZ4.out))
  clear t0 t1 t2 t3 tf tl p0 p2 q0 q2 l0 l1 l2 l3 lf ll z0 z1 z2 z3 zf zl
  obtain ⟨X, hX⟩ : ∃ X, (((V4.setCell ⟨w.heap.size + 1, 0, none⟩ (.slice (some ⟨g, 0, none⟩) ns ns)).setCell ⟨w.heap.size + 1, 1, none⟩ (.slice (some ⟨w.heap.size + 1 + 1, 0, none⟩) 16 16)).setCell ⟨w.heap.size + 1, 2, none⟩ (.slice (some ⟨gg, 0, none⟩) ni ni)).setCell ⟨w.heap.size + 1, 3, none⟩ (.slice (some ⟨V1.heap.size, 0, none⟩) nt nt) = X := ⟨_, rfl⟩
  have x0 : X.heap[w.heap.size + 1]? = some (.cells #[.slice (some ⟨g, 0, none⟩) ns ns, .slice (some ⟨w.heap.size + 1 + 1, 0, none⟩) 16 16, .slice (some ⟨gg, 0, none⟩) ni ni, .slice (some ⟨V1.heap.size, 0, none⟩) nt nt] 31 (0, 0)) := by rw [← hX]; exact box4_set XZ4.out
  have xo : OffX (fun b => b = w.heap.size + 1) V4 X := by
    rw [← hX]
    exact (((OffX.set (X := fun b => b = w.heap.size + 1) _ _ rfl).trans (OffX.set (X := fun b => b = w.heap.size + 1) _ _ rfl)).trans (OffX.set (X := fun b => b = w.heap.size + 1) _ _ rfl)).trans (OffX.set (X := fun b => b = w.heap.size + 1) _ _ rfl)
  have xb : Below w.heap.size w X := by
    rw [← hX]
    exact ((((BW3.out.trans (B4.out.mono BW3.out.size)).setCell (by simp) _).setCell (by simp) _).setCell (by simp) _).setCell (by simp) _
  rw [hX]
  clear hX
  rw [← HHQ.out] at H12
  rw [← HTQ.out] at H2
  rw [← HNS.out] at O3
  have s0 := BW2.out.size
  have CC : Hid _ := ci_of (z := w.heap.size + 1) ns 16 ni nt BW2.out (by omega) H12.out H2.out (by omega) B3.out O3.out B4.out C4.out (by omega) (by omega) (by omega) xo xb
  obtain ⟨m0, m1, m2, m3, mf, ml⟩ := box4_facts x0
  clear xo xb x0 H12 H2 O3 B3 B4 C4 XZ4 XZ2 XR2 BW2 BW3 B2
  go_wp2
  refine bodyPost_ret (v := .agg #[.slice (some ⟨g, 0, none⟩) ns ns, .slice (some ⟨w.heap.size + 1 + 1, 0, none⟩) 16 16, .slice (some ⟨gg, 0, none⟩) ni ni, .slice (some ⟨V1.heap.size, 0, none⟩) nt nt]) (by simp [results, Tryz.results13, go_sem, m0, m1, m2, m3]) rfl ⟨_, _, _, ?_, CC.out⟩
  dsimp only [rlV]
end Go.Proofs.YtfaaijoneaompaaGreat
