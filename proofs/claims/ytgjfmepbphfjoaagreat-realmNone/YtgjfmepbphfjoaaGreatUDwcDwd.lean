/-
  CopyRealm.
-/
import Derived.Test.YtgjfmepbphfjoaaGreatUCwDwb
import Derived.Test.YtgjfmepbphfjoaaGreatUDf
import Derived.Deep.RegionHeld3
import Derived.Test.YtgjfmepbphfjoaaGreatUDnCtDwhOwMwMx
import Derived.Deep.DeepCutAuto
namespace Go.Proofs.YtgjfmepbphfjoaaGreat
open Go.RowKit Go.ChangeShapes Go.WideShapes
set_option linter.unusedVariables false

theorem gright_few {G : List Cl} (h : gcheckE G = 0) : ∀ i, i < G.length → (cl G i).ks.length ≤ 1000 := fun i hi => by
  unfold gcheckE at h
  split at h
  · omega
  · have := cells_zero_at h i hi
    unfold cellE at this
    split at this
    · omega
    · split at this
      · omega
      · omega
/-- The cells of hands. -/
def hcL (hs : List (Int × Int)) : List Value := (List.range (hs.length * 2)).map (hcF hs)
theorem hcL_len (hs : List (Int × Int)) : (hcL hs).length = hs.length * 2 := by simp [hcL]
theorem hcL_at {hs : List (Int × Int)} {j : Nat} {v : Value} (h : (hcL hs)[j]? = some v) : j < hs.length * 2 ∧ v = hcF hs j := by
  obtain ⟨hl, hv⟩ := List.getElem?_eq_some_iff.1 h
  have hl2 := hl
  rw [hcL_len] at hl2
  refine ⟨hl2, ?_⟩
  rw [← hv]
  simp [hcL]
theorem hcL_one (hs : List (Int × Int)) : ∀ v ∈ hcL hs, v.oneCell' = true := fun v hv => by
  obtain ⟨j, _, rfl⟩ := List.mem_map.1 hv
  rfl
theorem hands_src {w : World} {a : Option Addr} {hs : List (Int × Int)} (h : HandsAt w a hs) : ∀ ad, a = some ad → ∀ j v, (hcL hs)[j]? = some v → w.cell? (ad.add j) = some v := fun ad e j v hj => by
  obtain ⟨hl, rfl⟩ := hcL_at hj
  obtain ⟨b, o, e2, h1, h2⟩ := h (j / 2) (by omega)
  rw [e] at e2
  cases e2
  rw [Addr.add_lit]
  by_cases hp : j % 2 = 0
  · have : j = j / 2 * 2 := by omega
    rw [show o + j = o + j / 2 * 2 by omega, h1]
    unfold hcF
    rw [if_pos hp]
  · rw [show o + j = o + j / 2 * 2 + 1 by omega, h2]
    unfold hcF
    rw [if_neg hp]
theorem hands_cells {w : World} {h : Nat} {hs : List (Int × Int)} (e : w.heap[h]? = some (.cells (hcL hs).toArray 39 (0, 0))) : w.rowIs h 39 (hs.length * 2) (hcF hs) := by
  refine ⟨_, e, ?_, fun i hi => ?_⟩
  · simp [hcL_len]
  · simp [hcL, hi]
theorem ints_src {w : World} {a : Option Addr} {l : List Int} (h : IntsAt w a l) : ∀ ad, a = some ad → ∀ j v, (l.map (Value.int .i64))[j]? = some v → w.cell? (ad.add j) = some v := fun ad e j v hj => by
  obtain ⟨hl, hv⟩ := List.getElem?_eq_some_iff.1 hj
  obtain ⟨b, o, e2, h1⟩ := h j (by simpa using hl)
  rw [e] at e2
  cases e2
  rw [List.getElem_map] at hv
  rw [getD_elem l 0 (by simpa using hl), hv] at h1
  rw [Addr.add_lit]
  exact h1
theorem ints_nilW {w : World} {a : Option Addr} {l : List Int} (h : IntsAt w a l) : a = none → l.length = 0 := fun e => by
  subst e
  cases hl : l.length with
  | zero => rfl
  | succ n => obtain ⟨b, o, e2, _⟩ := h 0 (by omega); cases e2
set_option maxHeartbeats 1000000 in
/-- ground.CopyList. -/
theorem clistHd (a : Option Addr) (c n : Nat) (cs : List Value) (w : World) (hn : n ≤ 100000) (hl : cs.length = n * 2) (hnil : a = none → n = 0) (hsrc : ∀ ad, a = some ad → ∀ j u, cs[j]? = some u → w.cell? (ad.add j) = some u) (h1 : ∀ u ∈ cs, u.oneCell' = true) :
    Calls Tryz.prog 71 #[.slice a n c] w fun e w' => e = .returned (.slice (some ⟨w.heap.size, 0, none⟩) n n) ∧ Below w.heap.size w w' ∧ w'.heap[w.heap.size]? = some (.cells cs.toArray 39 (0, 0)) := by
  have hz : (Tryz.prog.info? 39).map (fun i => (i.zero, i.size, i.bytes)) = some (some (.agg #[.int .i64 0, .int .i64 0]), 2, 16) := by kernel_rfl
  obtain ⟨i0, hi0, hz0, hz1, hz2⟩ := info_parts hz
  have hmk : ∀ w : World, (Instr.makeSlice 25 (.int .i64 (n : Int)) (.int .i64 (n : Int))).run Tryz.prog w = .ok (.slice (some ⟨w.heap.size, 0, none⟩) n n) (w.alloc (.cells (madeCells #[.int .i64 0, .int .i64 0] (n * 2)) 39)) := fun w => by
    have h := run_make (P := Tryz.prog) w 25 39 i0 _ Tryz.underlying25 hi0 hz0 .i64 .i64 n n (by omega) (by omega) (by rw [hz2]; omega) (by omega)
    rw [hz1] at h
    simp only [Int.toNat_natCast] at h
    exact h
  have HG : Hid ((w.alloc (.cells (madeCells #[.int .i64 0, .int .i64 0] (n * 2)) 39)).heap[w.heap.size]? = some (.cells (madeCells #[.int .i64 0, .int .i64 0] (n * 2)).toList.toArray 39 (0, 0))) := by
    have := heap_alloc_new w (.cells (madeCells #[.int .i64 0, .int .i64 0] (n * 2)) 39)
    show _ = _
    simpa using this
  have SRC : Hid (∀ o1 : Obj, ∀ ad, a = some ad → ∀ j u, cs[j]? = some u → (w.alloc o1).cell? (ad.add j) = some u) := fun o1 ad e j u hj => by
    have h1 := hsrc ad e j u hj
    exact ((one_belowS w o1).cell (World.block_lt_of_cell? _ _ h1)).trans h1
  have NIL : Hid (a = none → n = 0) := hnil
  have ONE : Hid (∀ u ∈ cs, u.oneCell' = true) := h1
  have LEN : Hid (cs.length = n * 2) := hl
  clear hsrc hnil h1 hl
  go_enter Tryz.func71, Tryz.ntmps71
  go_wp2_with (refine wpList_copy_rows rfl (.tmp 7) (.tmp 8) 25 25 rfl 39 i0 2 Tryz.underlying25 hi0 hz1 w.heap.size n n a c rfl rfl (madeCells #[.int .i64 0, .int .i64 0] (n * 2)).toList 39 HG.out cs LEN.out (by simp [size_madeCells]) NIL.out (SRC.out _) ONE.out ?_)
  intro w3 hw3 hb3
  have HB3 : Hid (Below w.heap.size w w3) := hb3.out _ _ (one_belowS _ _) (Nat.le_refl _)
  have HW3 : Hid _ := hw3
  clear hw3 hb3
  go_wp2
  go_ret
  exact ⟨rfl, HB3.out, HW3.out⟩

theorem own_P {w : World} {B g : Nat} {S : List Nd} {kb kc : Nat → Nat} (h : Own w B g S kb kc S.length) : OwnP w g (fun b => b < B) S := by
  obtain ⟨h0, F, hF, hN, hg, _⟩ := h
  exact ⟨by omega, F, hF, fun i hi => ⟨kb i, kc i, hN i hi, by have := hg i hi; omega, by have := hg i hi; omega⟩⟩
theorem ci_of {w V V3 V4 V5 V6 X : World} {R : Rl} {g gg z : Nat} {kb kc : Nat → Nat} (c0 c1 c2 : Nat) (bV : Below w.heap.size w V) (b3 : Below V.heap.size V V3) (o3 : Own V3 V.heap.size g R.s kb kc R.s.length) (b4 : Below V3.heap.size V3 V4) (hr : V4.heap[V3.heap.size]? = some (.cells (hcL R.hs).toArray 39 (0, 0)))
    (b5 : Below V4.heap.size V4 V5) (c5 : St (fun b => b < V4.heap.size ∨ V5.heap.size ≤ b) (fun V => ClsAt V (some ⟨gg, 0, none⟩) R.i) V5) (b6 : Below V5.heap.size V5 V6) (tr : V6.rowIs V5.heap.size 3 R.t.length (toldF R)) (zl : z < V.heap.size) (hX : OffX (fun b => b = z) V6 X) (bX : Below w.heap.size w X) :
    CI w R V3.heap.size g ⟨some ⟨g, 0, none⟩, some ⟨V3.heap.size, 0, none⟩, some ⟨gg, 0, none⟩, some ⟨V5.heap.size, 0, none⟩, c0, c1, c2, R.t.length⟩ X := by
  have hl := box_lt hr
  have tl := tr.lt
  have sV := bV.size
  have s3 := b3.size
  have s4 := b4.size
  have s5 := b5.size
  have s6 := b6.size
  have oP := own_P o3
  have gl := oP.lt
  have hg := oP.1
  have oX : OwnP X g (fun b => b < V.heap.size ∨ b = V3.heap.size ∨ b = V5.heap.size) R.s := ((((oP.grow (Y := fun b => b < V.heap.size ∨ b = V3.heap.size ∨ b = V5.heap.size) (fun b hb hy => by omega)).off (OffX.of_below b4)).off (OffX.of_below b5)).off (OffX.of_below b6)).off (hX.mono (fun b hb => Or.inl (by have : b = z := hb; omega)))
  refine ⟨bX, by omega, (show w.heap.size ≤ V5.heap.size by omega), (show V5.heap.size ≠ V3.heap.size by omega), rfl, rfl, rfl, rfl, hands_cells ?_, tr.of_block (hX.block _ tl (by show ¬ V5.heap.size = z; omega)), oX.grow (fun b _ hy => ?_), (St.off (X := fun b => b < V4.heap.size ∨ V5.heap.size ≤ b) (c5.off (OffX.of_below b6)) (hX.mono (fun b hb => Or.inl (by have : b = z := hb; omega)))).less (fun b hb => ?_)⟩
  · exact (hX.block _ (by omega) (by show ¬ V3.heap.size = z; omega)).trans (keepB (keepB hr b5) b6)
  · have : b < w.heap.size ∨ b = V3.heap.size ∨ b = V5.heap.size := hy
    omega
  · have : b < w.heap.size ∨ b = V3.heap.size ∨ b = V5.heap.size ∨ b = g := hb
    omega

set_option maxRecDepth 100000 in
set_option maxHeartbeats 4000000 in
theorem crealm_any (A : RA) (R : Rl) (w : World) (hR : rcheckE R = 0) (hW : RlAt w A R) :
    Calls Tryz.prog 24 #[rlV A R] w fun e w' => ∃ (B : RA) (h g : Nat), e = .returned (rlV B R) ∧ CI w R h g B w' := by
  obtain ⟨a0, a1, a2, a3, c0, c1, c2, c3⟩ := A
  obtain ⟨wf, hl, hgc, ht⟩ := rcheck_parts hR
  have hgb := gright_big hgc
  obtain ⟨w0, w1, w2, w3⟩ := hW
  have D0 : Hid (∀ W, Below w.heap.size w W → _) := fun W hW => YtgjfmepbphfjoaaGreat.copy_any a0 c0 R.s W wf.small (kids_1000 wf) (w0.below hW)
  have D1 : Hid (∀ W, Below w.heap.size w W → _) := fun W hW => clistHd a1 c1 R.hs.length (hcL R.hs) W (by omega) (hcL_len _) (fun e => by obtain ⟨b, o, e2, _⟩ := w1 0 (by omega); rw [e] at e2; cases e2) (hands_src (w1.below hW)) (hcL_one _)
  have D2 : Hid (∀ W, Below w.heap.size w W → _) := fun W hW => cgraph_any a2 c2 R.i W (by omega) (gright_few hgc) (w2.below hW)
  have D3 : Hid (∀ W, Below w.heap.size w W → _) := fun W hW => copyKids_any a3 c3 R.t W (by omega) (w3.below hW)
  clear w0 w1 w2 w3 hgb hgc wf hR ht
  have CC : Hid (∀ (V V3 V4 V5 V6 X : World) (g gg z : Nat) (kb kc : Nat → Nat), Below w.heap.size w V → Below V.heap.size V V3 → Own V3 V.heap.size g R.s kb kc R.s.length → Below V3.heap.size V3 V4 → V4.heap[V3.heap.size]? = some (.cells (hcL R.hs).toArray 39 (0, 0)) → Below V4.heap.size V4 V5 → St (fun b => b < V4.heap.size ∨ V5.heap.size ≤ b) (fun V => ClsAt V (some ⟨gg, 0, none⟩) R.i) V5 → Below V5.heap.size V5 V6 → V6.rowIs V5.heap.size 3 R.t.length (toldF R) → z < V.heap.size → OffX (fun b => b = z) V6 X → Below w.heap.size w X → CI w R V3.heap.size g ⟨some ⟨g, 0, none⟩, some ⟨V3.heap.size, 0, none⟩, some ⟨gg, 0, none⟩, some ⟨V5.heap.size, 0, none⟩, R.s.length, R.hs.length, R.i.length, R.t.length⟩ X) := fun V V3 V4 V5 V6 X g gg z kb kc h1 h2 h3 h4 h5 h6 h7 h8 h9 h10 h11 h12 => ci_of _ _ _ h1 h2 h3 h4 h5 h6 h7 h8 h9 h10 h11 h12
  dsimp only [rlV]
  obtain ⟨ns, hns⟩ : ∃ n, R.s.length = n := ⟨_, rfl⟩
  obtain ⟨nh, hnh⟩ : ∃ n, R.hs.length = n := ⟨_, rfl⟩
  obtain ⟨ni, hni⟩ : ∃ n, R.i.length = n := ⟨_, rfl⟩
  obtain ⟨nt, hnt⟩ : ∃ n, R.t.length = n := ⟨_, rfl⟩
  rw [hns] at D0 CC ⊢
  rw [hnh] at D1 CC ⊢
  rw [hni] at D2 CC ⊢
  rw [hnt] at D3 CC ⊢
  clear hns hnh hni hnt hl
  go_enter Tryz.func24, Tryz.ntmps24
  go_wp2_with fail
  obtain ⟨V, hV⟩ : ∃ V, (w.alloc (.cells #[.slice a0 ns c0, .slice a1 nh c1, .slice a2 ni c2, .slice a3 nt c3] 31)).alloc (.cells #[.slice none 0 0, .slice none 0 0, .slice none 0 0, .slice none 0 0] 31) = V := ⟨_, rfl⟩
  have XR : Hid (V.heap[w.heap.size]? = some (.cells #[.slice a0 ns c0, .slice a1 nh c1, .slice a2 ni c2, .slice a3 nt c3] 31 (0, 0))) := by rw [← hV]; exact keepB (box4_new _ _ _ _ _ _) (one_belowS _ _)
  have XZ : Hid (V.heap[w.heap.size + 1]? = some (.cells #[.slice none 0 0, .slice none 0 0, .slice none 0 0, .slice none 0 0] 31 (0, 0))) := by
    rw [← hV]
    have h := box4_new (w.alloc (.cells #[.slice a0 ns c0, .slice a1 nh c1, .slice a2 ni c2, .slice a3 nt c3] 31)) 31 (.slice none 0 0) (.slice none 0 0) (.slice none 0 0) (.slice none 0 0)
    rw [World.size_alloc] at h
    exact h
  have BV : Hid (Below w.heap.size w V) := by rw [← hV]; exact two_belowS _ _ _
  rw [hV]
  clear hV
  obtain ⟨l0, l1, l2, l3, lf, ll⟩ := box4_facts XR.out
  go_region_held3 (fun w'' => w''.cell? ⟨w.heap.size, 0, none⟩ = some (.slice a0 ns c0) ∧ w''.cell? ⟨w.heap.size, 1, none⟩ = some (.slice a1 nh c1) ∧ w''.cell? ⟨w.heap.size, 2, none⟩ = some (.slice a2 ni c2) ∧ w''.cell? ⟨w.heap.size, 3, none⟩ = some (.slice a3 nt c3)) (go_keep) (first
    | (go_at_call 70; refine Calls.mono (D0.out _ BV.out.drew) ?_; rintro e V3 ⟨g, kb, kc, rfl, hb3, ho3⟩; have B3 : Hid (Below V.heap.size V V3) := (Below.refl _ _).drew.trans hb3; have O3 : Hid (Own V3 V.heap.size g R.s kb kc ns) := ho3; have BW3 : Hid (Below w.heap.size w V3) := BV.out.trans (B3.out.mono BV.out.size); have q0 := keepC l0 B3.out; have q1 := keepC l1 B3.out; have q2 := keepC l2 B3.out; have q3 := keepC l3 B3.out; clear hb3 ho3)
    | (go_at_call 71; refine Calls.mono (D1.out _ BW3.out) ?_; rintro e V4 ⟨rfl, hb4, hr4⟩; have B4 : Hid (Below V3.heap.size V3 V4) := hb4; have R4 : Hid _ := hr4; have BW4 : Hid (Below w.heap.size w V4) := BW3.out.trans (hb4.mono BW3.out.size); have p0 := keepC q0 hb4; have p1 := keepC q1 hb4; have p2 := keepC q2 hb4; have p3 := keepC q3 hb4; clear hb4 hr4)
    | (go_at_call 72; refine Calls.mono (D2.out _ BW4.out) ?_; rintro e V5 ⟨gg, rfl, hb5, hg5, hc5⟩; have B5 : Hid (Below V4.heap.size V4 V5) := hb5; have C5 : Hid _ := hc5; have BW5 : Hid (Below w.heap.size w V5) := BW4.out.trans (hb5.mono BW4.out.size); have r0 := keepC p0 hb5; have r1 := keepC p1 hb5; have r2 := keepC p2 hb5; have r3 := keepC p3 hb5; clear hb5 hc5 hg5)
    | (go_at_call 73; refine Calls.mono (D3.out _ BW5.out) ?_; rintro e V6 ⟨rfl, hb6, ht6⟩; have B6 : Hid (Below V5.heap.size V5 V6) := hb6; have T6 : Hid _ := ht6; have BW6 : Hid (Below w.heap.size w V6) := BW5.out.trans (hb6.mono BW5.out.size); have u0 := keepC r0 hb6; have u1 := keepC r1 hb6; have u2 := keepC r2 hb6; have u3 := keepC r3 hb6; clear hb6 ht6; have XZ6 : Hid _ := keepB (keepB (keepB (keepB XZ.out B3.out) B4.out) B5.out) B6.out; obtain ⟨t0, t1, t2, t3, tf, tl⟩ := box4_facts XZ6.out))
  clear t0 t1 t2 t3 tf tl u0 u1 u2 u3 r0 r1 r2 r3 p0 p1 p2 p3 q0 q1 q2 q3 l0 l1 l2 l3 lf ll
  obtain ⟨X, hX⟩ : ∃ X, (((V6.setCell ⟨w.heap.size + 1, 0, none⟩ (.slice (some ⟨g, 0, none⟩) ns ns)).setCell ⟨w.heap.size + 1, 1, none⟩ (.slice (some ⟨V3.heap.size, 0, none⟩) nh nh)).setCell ⟨w.heap.size + 1, 2, none⟩ (.slice (some ⟨gg, 0, none⟩) ni ni)).setCell ⟨w.heap.size + 1, 3, none⟩ (.slice (some ⟨V5.heap.size, 0, none⟩) nt nt) = X := ⟨_, rfl⟩
  have x0 : X.heap[w.heap.size + 1]? = some (.cells #[.slice (some ⟨g, 0, none⟩) ns ns, .slice (some ⟨V3.heap.size, 0, none⟩) nh nh, .slice (some ⟨gg, 0, none⟩) ni ni, .slice (some ⟨V5.heap.size, 0, none⟩) nt nt] 31 (0, 0)) := by rw [← hX]; exact box4_set XZ6.out
  have xo : OffX (fun b => b = w.heap.size + 1) V6 X := by
    rw [← hX]
    exact (((OffX.set (X := fun b => b = w.heap.size + 1) _ _ rfl).trans (OffX.set (X := fun b => b = w.heap.size + 1) _ _ rfl)).trans (OffX.set (X := fun b => b = w.heap.size + 1) _ _ rfl)).trans (OffX.set (X := fun b => b = w.heap.size + 1) _ _ rfl)
  have xb : Below w.heap.size w X := by
    rw [← hX]
    exact (((BW6.out.setCell (by simp) _).setCell (by simp) _).setCell (by simp) _).setCell (by simp) _
  rw [hX]
  clear hX
  have C : Hid _ := CC.out V V3 V4 V5 V6 X g gg (w.heap.size + 1) kb kc BV.out B3.out O3.out B4.out R4.out B5.out C5.out B6.out T6.out (box_lt XZ.out) xo xb
  obtain ⟨m0, m1, m2, m3, mf, ml⟩ := box4_facts x0
  clear xo xb x0 O3 B3 B4 B5 B6 C5 T6 R4 XZ6 XZ XR BV BW3 BW4 BW5 BW6 CC D0 D1 D2 D3
  go_wp2
  exact bodyPost_ret (v := .agg #[.slice (some ⟨g, 0, none⟩) ns ns, .slice (some ⟨V3.heap.size, 0, none⟩) nh nh, .slice (some ⟨gg, 0, none⟩) ni ni, .slice (some ⟨V5.heap.size, 0, none⟩) nt nt]) (by simp [results, Tryz.results24, go_sem, m0, m1, m2, m3]) rfl ⟨_, _, _, rfl, C.out⟩
end Go.Proofs.YtgjfmepbphfjoaaGreat

namespace Go.Proofs.YtgjfmepbphfjoaaGreat
open Go.RowKit Go.ChangeShapes Go.WideShapes
set_option linter.unusedVariables false

/-- A deed: what it answers, and what it leaves in the realm's box. -/
def Deed (K : Nat) (caps : Array Value) (w : World) (R : Rl) (x : Ac) (q : Rs) : Prop := ∀ (d h g : Nat) (A : RA) (V : World), WI w R d h g A V →
  Calls Tryz.prog K (#[.pointer (some ⟨d, 0, none⟩), acV x] ++ caps) V fun e V' => ∃ o : Int, e = .returned (.tuple #[.int .i64 o, .int .i64 q.e]) ∧ Below w.heap.size w V' ∧ (q.e = 0 → o = q.o ∧ ∃ B : RA, V'.heap[d]? = some (bxR B q.r) ∧ RlF w.heap.size d V' B q.r)
theorem ans_e (E : Int) (Q : Rl) (o : Int) : (ans E Q o).e = E := by
  unfold ans
  by_cases h : E = 0
  · rw [if_pos h]; exact h.symm
  · rw [if_neg h]
theorem ans_0 {E : Int} (h : E = 0) (Q : Rl) (o : Int) : ans E Q o = ⟨0, Q, o⟩ := if_pos h
/-- As it was. -/
theorem WI.rl {w V : World} {R : Rl} {d h g : Nat} {A : RA} (I : WI w R d h g A V) : RlF w.heap.size d V A R :=
  ⟨I.a3, I.c3, I.t0, I.td, I.tr, fun V' ho => ⟨by rw [I.a0]; exact I.own.st.less (fun b hb => by omega) V' ho, by rw [I.a1]; exact hands_row (I.row.of_block (ho.block h I.row.lt (by have := I.h0; have := I.dh; have := I.th; omega))), I.cls.less (fun b hb => by omega) V' ho⟩⟩
/-- Another store. -/
theorem WI.store {w V : World} {R : Rl} {d h g : Nat} {A : RA} (I : WI w R d h g A V) {a : Option Addr} {T : List Nd} (c : Nat) {N : Nat} (hn : St (fun b => b < N) (fun V => NdsAt V a T) V) (hb : w.heap.size ≤ N ∧ d < N ∧ h < N ∧ tOf A < N) :
    Below w.heap.size w (V.setCell ⟨d, 0, none⟩ (.slice a T.length c)) ∧ (V.setCell ⟨d, 0, none⟩ (.slice a T.length c)).heap[d]? = some (bxR ⟨a, A.a1, A.a2, A.a3, c, A.c1, A.c2, A.c3⟩ ⟨T, R.hs, R.i, R.t⟩) ∧ RlF w.heap.size d (V.setCell ⟨d, 0, none⟩ (.slice a T.length c)) ⟨a, A.a1, A.a2, A.a3, c, A.c1, A.c2, A.c3⟩ ⟨T, R.hs, R.i, R.t⟩ := by
  have ho : ∀ X : Nat → Prop, X d → OffX X V (V.setCell ⟨d, 0, none⟩ (.slice a T.length c)) := fun X hx => OffX.set V _ hx
  have hr := I.rl
  refine ⟨I.bel.setCell I.d0 _, boxN_set I.box, hr.a3, hr.c3, hr.t0, hr.td, hr.tr.setOther hr.td _, fun V' h2 => ⟨hn V' ((ho _ hb.2.1).trans (h2.mono (fun b h3 => ?_))), (hr.st V' ((ho _ (Or.inr (Or.inl rfl))).trans h2)).2⟩⟩
  have h4 : b < w.heap.size ∨ b = d ∨ b = tOf A := h3
  show b < N
  omega

/-- A hand set in row h. -/
theorem row_hand {V : World} {h : Nat} {hs : List (Int × Int)} (hr : V.rowIs h 39 (hs.length * 2) (hcF hs)) {k : Nat} (hk : k < hs.length) (y : Int × Int) : ((V.setCell ⟨h, k * 2, none⟩ (.int .i64 y.1)).setCell ⟨h, k * 2 + 1, none⟩ (.int .i64 y.2)).rowIs h 39 ((hs.set k y).length * 2) (hcF (hs.set k y)) := by
  rw [List.length_set, ← hcF_set hs k y hk]
  exact (hr.set (k * 2) _).set (k * 2 + 1) _
theorem off_hand {X : Nat → Prop} {h : Nat} (V : World) (hx : X h) (o o' : Nat) (u v : Value) : OffX X V ((V.setCell ⟨h, o, none⟩ u).setCell ⟨h, o', none⟩ v) := (OffX.set V u hx).trans (OffX.set _ v hx)
/-- Another hand. -/
theorem WI.setHand {w V : World} {R : Rl} {d h g : Nat} {A : RA} (I : WI w R d h g A V) {k : Nat} (hk : k < R.hs.length) (y : Int × Int) {V' : World} (hV : V' = (V.setCell ⟨h, k * 2, none⟩ (.int .i64 y.1)).setCell ⟨h, k * 2 + 1, none⟩ (.int .i64 y.2)) :
    Below w.heap.size w V' ∧ V'.heap[d]? = some (bxR A ⟨R.s, R.hs.set k y, R.i, R.t⟩) ∧ RlF w.heap.size d V' A ⟨R.s, R.hs.set k y, R.i, R.t⟩ := by
  subst hV
  have h1 := row_hand I.row hk y
  have hb := I.box
  have oh := off_hand (X := fun b => b < w.heap.size ∨ b = d ∨ b = h ∨ b = tOf A) V (Or.inr (Or.inr (Or.inl rfl))) (k * 2) (k * 2 + 1) (.int .i64 y.1) (.int .i64 y.2)
  refine ⟨(I.bel.setCell I.h0 _).setCell I.h0 _, ?_, I.a3, I.c3, I.t0, I.td, (I.tr.setOther I.th _).setOther I.th _, fun V' ho => ⟨by rw [I.a0]; exact I.own.st V' (oh.trans (ho.mono (fun b hb => by omega))), by rw [I.a1]; exact hands_row (h1.of_block (ho.block h h1.lt (by have := I.h0; have := I.dh; have := I.th; omega))), I.cls V' ((oh.mono (fun b hb => by omega)).trans (ho.mono (fun b hb => by omega)))⟩⟩
  rw [Below.heap_setCell _ _ _ _ (Ne.symm I.dh), Below.heap_setCell _ _ _ _ (Ne.symm I.dh), hb]
  dsimp only [bxR]
  rw [List.length_set]
/-- Another store, and another hand. -/
theorem WI.storeHand {w V : World} {R : Rl} {d h g : Nat} {A : RA} (I : WI w R d h g A V) {a : Option Addr} {T : List Nd} (c : Nat) {N : Nat} (hn : St (fun b => b < N) (fun V => NdsAt V a T) V) (hb : w.heap.size ≤ N ∧ d < N ∧ h < N ∧ tOf A < N) {k : Nat} (hk : k < R.hs.length) (y : Int × Int) {V' : World} (hV : V' = ((V.setCell ⟨d, 0, none⟩ (.slice a T.length c)).setCell ⟨h, k * 2, none⟩ (.int .i64 y.1)).setCell ⟨h, k * 2 + 1, none⟩ (.int .i64 y.2)) :
    Below w.heap.size w V' ∧ V'.heap[d]? = some (bxR ⟨a, A.a1, A.a2, A.a3, c, A.c1, A.c2, A.c3⟩ ⟨T, R.hs.set k y, R.i, R.t⟩) ∧ RlF w.heap.size d V' ⟨a, A.a1, A.a2, A.a3, c, A.c1, A.c2, A.c3⟩ ⟨T, R.hs.set k y, R.i, R.t⟩ := by
  subst hV
  obtain ⟨b1, x1, r1⟩ := I.store c hn hb
  have h1 := row_hand (I.row.setOther (a := ⟨d, 0, none⟩) I.dh (.slice a T.length c)) hk y
  have o0 : ∀ X : Nat → Prop, X d → OffX X V (V.setCell ⟨d, 0, none⟩ (.slice a T.length c)) := fun X hx => OffX.set V _ hx
  have oh := fun X (hx : X h) => off_hand (X := X) (V.setCell ⟨d, 0, none⟩ (.slice a T.length c)) hx (k * 2) (k * 2 + 1) (.int .i64 y.1) (.int .i64 y.2)
  refine ⟨(b1.setCell I.h0 _).setCell I.h0 _, ?_, r1.a3, r1.c3, r1.t0, r1.td, (r1.tr.setOther (a := ⟨h, k * 2, none⟩) I.th _).setOther (a := ⟨h, k * 2 + 1, none⟩) I.th _, fun V' ho => ⟨hn V' (((o0 _ hb.2.1).trans (oh _ hb.2.2.1)).trans (ho.mono (fun b h3 => ?_))), ?_, I.cls V' (((o0 _ (Or.inr (Or.inl rfl))).trans (oh _ (Or.inr (Or.inr (Or.inl rfl))))).trans (ho.mono (fun b hb => ?_)))⟩⟩
  · rw [Below.heap_setCell _ _ _ _ (Ne.symm I.dh), Below.heap_setCell _ _ _ _ (Ne.symm I.dh), x1]
    dsimp only [bxR]
    rw [List.length_set]
  · have h4 : b < w.heap.size ∨ b = d ∨ b = tOf A := h3
    show b < N
    omega
  · show HandsAt _ A.a1 _
    rw [I.a1]
    exact hands_row (h1.of_block (ho.block h h1.lt (by show ¬ (h < w.heap.size ∨ h = d ∨ h = tOf A); have := I.h0; have := I.dh; have := I.th; omega)))
  · have h4 : b < w.heap.size ∨ b = d ∨ b = tOf A := hb
    omega
/-- Another mark. -/
theorem WI.setMark {w V : World} {R : Rl} {d h g : Nat} {A : RA} (I : WI w R d h g A V) {k : Nat} (hk : k < R.s.length) (n : Int) {V' : World} (hV : V' = V.setCell ⟨g, k * 8 + 3, none⟩ (.int .i64 n)) :
    Below w.heap.size w V' ∧ V'.heap[d]? = some (bxR A ⟨R.s.set k { nd R.s k with m := n }, R.hs, R.i, R.t⟩) ∧ RlF w.heap.size d V' A ⟨R.s.set k { nd R.s k with m := n }, R.hs, R.i, R.t⟩ := by
  subst hV
  obtain ⟨g0, gd, hg, tg⟩ := I.gs
  have r1 := I.row.setOther (a := ⟨g, k * 8 + 3, none⟩) hg (.int .i64 n)
  refine ⟨I.bel.setCell g0 _, ?_, I.a3, I.c3, I.t0, I.td, I.tr.setOther tg _, fun V' ho => ⟨by rw [I.a0]; exact (I.own.mark hk n).st V' (ho.mono (fun b hb => by omega)), by rw [I.a1]; exact hands_row (r1.of_block (ho.block h r1.lt (by have := I.h0; have := I.dh; have := I.th; omega))), I.cls V' ((OffX.set V _ (by omega)).trans (ho.mono (fun b hb => by omega)))⟩⟩
  rw [Below.heap_setCell _ _ _ _ (Ne.symm gd), I.box]
  dsimp only [bxR]
  rw [List.length_set]

/-- Behind a call whose answer goes into a box of its own: the box made behind it, or ahead of it. -/
theorem relA {V V1 w3 : World} {a : Option Addr} {T : List Nd} (c t : Nat) (bv : Below V.heap.size V V1) (b3 : Below V1.heap.size V1 w3) (n3 : St (fun b => b < V1.heap.size) (fun V => NdsAt V a T) w3) :
    Hid (Below V.heap.size V (w3.alloc (.cells #[.slice a T.length c] t))) ∧ Hid (St (fun b => b < V.heap.size) (fun V => NdsAt V a T) (w3.alloc (.cells #[.slice a T.length c] t))) ∧ (w3.alloc (.cells #[.slice a T.length c] t)).cell? ⟨w3.heap.size, 0, none⟩ = some (.slice a T.length c) ∧ V.heap.size ≤ w3.heap.size := by
  have b := bv.trans (b3.mono bv.size)
  have sv := bv.size
  exact ⟨b.trans ((one_belowS _ _).mono b.size), (n3.less (fun b hb => by show b < V1.heap.size; have : b < V.heap.size := hb; omega)).off (OffX.of_below (one_belowS _ _)), alloc_cell _ _ _ 0 rfl, b.size⟩
theorem relB {V V1 w3 : World} {a : Option Addr} {T : List Nd} (c : Nat) {t : Nat} (bv : Below V.heap.size V V1) (b3 : Below V1.heap.size V1 w3) (n3 : St (fun b => b < V1.heap.size + 1) (fun V => NdsAt V a T) w3) (x3 : w3.heap[V1.heap.size]? = some (.cells #[.slice none 0 0] t (0, 0))) :
    Hid (Below V.heap.size V (w3.setCell ⟨V1.heap.size, 0, none⟩ (.slice a T.length c))) ∧ Hid (St (fun b => b < V.heap.size) (fun V => NdsAt V a T) (w3.setCell ⟨V1.heap.size, 0, none⟩ (.slice a T.length c))) ∧ (w3.setCell ⟨V1.heap.size, 0, none⟩ (.slice a T.length c)).cell? ⟨V1.heap.size, 0, none⟩ = some (.slice a T.length c) ∧ V.heap.size ≤ V1.heap.size := by
  have b := bv.trans (b3.mono bv.size)
  have sv := bv.size
  exact ⟨b.setCell bv.size _, (n3.off (OffX.set w3 _ (by show V1.heap.size < V1.heap.size + 1; omega))).less (fun b hb => by show b < V1.heap.size + 1; have : b < V.heap.size := hb; omega), box_cell (boxN_set (i := 0) x3), bv.size⟩

set_option maxRecDepth 100000 in
set_option maxHeartbeats 4000000 in
theorem change_any (F : Nat) (eg : ∀ args w, (callFunc F args).run Tryz.prog w = .ok (.enter F args) w) (cb : Nat) (w : World) (hc : w.cell? ⟨cb, 0, none⟩ = some (.func (.func F) #[] #[])) (R : Rl) (x : Ac) (hl : R.hs.length = 16) (ha : isH x.a) (T : List Nd) (E : Int) (hF : StoErrX F R.s (rS E T) #[hdV (hd R x.a)] E) :
    Deed 102 #[.pointer (some ⟨cb, 0, none⟩)] w R x (ans E ⟨T, R.hs, R.i, R.t⟩ 0) := fun d h g A V I => by
  rw [ans_e]
  obtain ⟨a0, a1, a2, a3, c0, c1, c2, c3⟩ := A
  obtain rfl : a0 = some ⟨g, 0, none⟩ := I.a0
  obtain rfl : a1 = some ⟨h, 0, none⟩ := I.a1
  obtain ⟨xk, xa, xb, xc, xn⟩ := x
  obtain ⟨p, hp, hp16⟩ := natH ha
  dsimp only at hp
  subst hp
  obtain ⟨u0, u1⟩ := I.hand (k := p) (by omega)
  have II : Hid (WI w R d h g _ V) := I
  have D : Hid (∀ W, Below V.heap.size V W → Calls Tryz.prog F #[.agg #[.slice (some ⟨g, 0, none⟩) R.s.length c0], .agg #[.int .i64 (hd R (p : Int)).1, .int .i64 (hd R (p : Int)).2]] W fun e w' => ∃ a' c', e = .returned (.tuple #[.agg #[.slice a' (rS E T).length c'], .int .i64 E]) ∧ Below W.heap.size W w' ∧ St (fun b => b < W.heap.size) (fun V => NdsAt V a' (rS E T)) w') := fun W hW => hF (some ⟨g, 0, none⟩) c0 W (I.nds.below hW)
  have k0 := (I.bel.cell (World.block_lt_of_cell? _ _ hc)).trans hc
  obtain ⟨l0, l1, l2, l3, fz, lt⟩ := box4_facts I.box
  dsimp only at l0 l1 l2 l3
  rw [hl] at l1
  clear hF
  generalize hd R (p : Int) = hh at *
  obtain ⟨P, U⟩ := hh
  have hdl : d < V.heap.size := lt
  have hhl : h < V.heap.size := World.block_lt_of_cell? _ _ u0
  have hcl : cb < V.heap.size := World.block_lt_of_cell? _ _ k0
  show Calls Tryz.prog _ #[.pointer (some ⟨d, 0, none⟩), .agg #[.int .i64 xk, .int .i64 p, .int .i64 xb, .int .i64 xc, .int .i64 xn], .pointer (some ⟨cb, 0, none⟩)] V _
  clear hl ha I hc
  obtain ⟨ns, hns⟩ : ∃ n, R.s.length = n := ⟨_, rfl⟩
  rw [hns] at D l0
  have hp2 : (p : Int) < 16 := by omega
  go_enter Tryz.func102, Tryz.ntmps102
  go_upto_region 1 with fail
  obtain ⟨V1, hV1⟩ : ∃ V1, V.alloc (.cells #[.int .i64 xk, .int .i64 p, .int .i64 xb, .int .i64 xc, .int .i64 xn] 41) = V1 := ⟨_, rfl⟩
  have BV : Hid (Below V.heap.size V V1) := by rw [← hV1]; exact one_belowS _ _
  have y1 : V1.cell? ⟨V.heap.size, 1, none⟩ = some (.int .i64 p) := by rw [← hV1]; exact alloc_cell _ _ _ 1 rfl
  have sV : V.heap.size < V1.heap.size := World.block_lt_of_cell? _ _ y1
  rw [hV1]
  clear hV1
  replace u0 := keepC u0 BV.out
  replace u1 := keepC u1 BV.out
  replace l0 := keepC l0 BV.out
  replace l1 := keepC l1 BV.out
  replace k0 := keepC k0 BV.out
  have hdv : d < V.heap.size := lt
  have n1 : ¬ V1.heap.size = cb := by omega
  have n2 : ¬ V1.heap.size = d := by omega
  have n3 : ¬ V1.heap.size = h := by omega
  have n4 : ¬ V1.heap.size = V.heap.size := by omega
  have n1' : ¬ cb = V1.heap.size := by omega
  have n2' : ¬ d = V1.heap.size := by omega
  have n3' : ¬ h = V1.heap.size := by omega
  have n4' : ¬ V.heap.size = V1.heap.size := by omega
  replace hdl : d < V1.heap.size := by omega
  replace hhl : h < V1.heap.size := by omega
  replace hcl : cb < V1.heap.size := by omega
  clear l2 l3 fz lt
  go_cut [7, 8] (fun s7 s8 wx => ∃ (b : Nat) (a' : Option Addr) (c' : Nat), s7 = .pointer (some ⟨b, 0, none⟩) ∧ s8 = .int .i64 E ∧ Hid (Below V.heap.size V wx) ∧ Hid (St (fun b => b < V.heap.size) (fun V => NdsAt V a' (rS E T)) wx) ∧ wx.cell? ⟨b, 0, none⟩ = some (.slice a' (rS E T).length c') ∧ V.heap.size ≤ b)
  case first =>
    go_region_held3 (fun w'' => w''.cell? ⟨cb, 0, none⟩ = some (.func (.func F) #[] #[]) ∧ w''.cell? ⟨d, 0, none⟩ = some (.slice (some ⟨g, 0, none⟩) ns c0) ∧ w''.cell? ⟨d, 1, none⟩ = some (.slice (some ⟨h, 0, none⟩) 16 c1) ∧ w''.cell? ⟨h, p * 2, none⟩ = some (.int .i64 P) ∧ w''.cell? ⟨h, p * 2 + 1, none⟩ = some (.int .i64 U) ∧ w''.cell? ⟨V.heap.size, 1, none⟩ = some (.int .i64 p)) (go_keep) (first | (refine Calls.mono (D.out V1.drew BV.out.drew) ?_; rintro e w3 ⟨a', c', rfl, hb3, hn3⟩; have B3 : Hid (Below V1.heap.size V1 w3) := (Below.refl _ _).drew.trans hb3; have N3 : Hid (St (fun b => b < V1.heap.size) (fun V => NdsAt V a' (rS E T)) w3) := hn3; have g0 := keepC k0 B3.out; have g1 := keepC l0 B3.out; have g2 := keepC l1 B3.out; have g3 := keepC u0 B3.out; have g4 := keepC u1 B3.out; have g5 := keepC y1 B3.out; clear hb3 hn3) | (refine Calls.mono (D.out (V1.alloc (.cells #[.slice none 0 0] 24)).drew (BV.out.trans ((one_belowS V1 _).mono BV.out.size)).drew) ?_; rintro e w3 ⟨a', c', rfl, hb3, hn3⟩; have B3 : Hid (Below V1.heap.size V1 w3) := (one_belowS V1 _).drew.trans (hb3.mono (by simp)); have N3 : Hid (St (fun b => b < V1.heap.size + 1) (fun V => NdsAt V a' (rS E T)) w3) := (by have h := hn3; simp only [World.size_alloc, World.size_drew] at h; exact h); have g0 := keepC k0 B3.out; have g1 := keepC l0 B3.out; have g2 := keepC l1 B3.out; have g3 := keepC u0 B3.out; have g4 := keepC u1 B3.out; have g5 := keepC y1 B3.out; have X3 : Hid (w3.heap[V1.heap.size]? = some (.cells #[.slice none 0 0] 24 (0, 0))) := keepB (W := (V1.alloc (.cells #[.slice none 0 0] 24)).drew) (heap_alloc_new V1 _) hb3; have x3 := box_cell X3.out; have xf := box_frozen (o := 0) X3.out; have xl : V1.heap.size < w3.heap.size := box_lt X3.out; clear hb3 hn3))
    · go_wp2_with fail
      go_meet
      case rel => exact ⟨_, _, _, rfl, rfl, relA _ _ BV.out B3.out N3.out⟩
    · go_wp2_with fail
      go_meet
      case rel => exact ⟨_, _, _, rfl, rfl, relB _ BV.out B3.out N3.out X3.out⟩
  case rest =>
    obtain ⟨b, a', c', rfl, rfl, HB, HN, hcell, hbl⟩ := hcut
    have I2 : Hid _ := II.out.below HB.out
    have hS := I2.out.store c' HN.out II.out.base
    have HS : Hid _ := hS
    obtain ⟨m0, m1, m2, m3, mf, ml⟩ := box4_facts I2.out.box
    have bl : b < wc.heap.size := World.block_lt_of_cell? _ _ hcell
    have nbd : ¬ b = d := by omega
    clear hS II D u0 u1 l0 l1 k0 y1
    go_wp2
    refine bodyPost_ret (v := .tuple #[.int .i64 0, .int .i64 E]) (by simp [results, Tryz.results102, go_sem]) rfl ⟨0, rfl, HS.out.1, fun hE => ?_⟩
    rw [ans_0 hE]
    have h2 := HS.out.2
    rw [hE, rS_ok] at h2
    rw [hE, rS_ok]
    exact ⟨rfl, _, h2⟩
end Go.Proofs.YtgjfmepbphfjoaaGreat
