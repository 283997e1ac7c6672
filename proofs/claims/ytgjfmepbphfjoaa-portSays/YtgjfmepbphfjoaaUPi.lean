/-
  The reference's PortPushed, PortPulled.
-/
import Derived.Test.YtgjfmepbphfjoaaUPh
namespace Go.Proofs.Ytgjfmepbphfjoaa
open Go.RowKit Go.ChangeShapes Go.WideShapes
set_option linter.unusedVariables false

set_option maxRecDepth 100000 in
set_option maxHeartbeats 2000000 in
theorem rpush_any (a : Option Addr) (c : Nat) (L : List Pt) (Fr k o t : Int) (ga : Option Addr) (gc : Nat) (G : List Cl) (w : World) (hN : L.length ≤ 9223372036854775807) (hB : BigP L) (hL : PtsAt w a L) (hGN : G.length ≤ 9223372036854775807) (hGB : BigC G) (hG : ClsAt w ga G) :
    Calls Try.prog 12 #[.slice a L.length c, .int .i64 Fr, .int .i64 k, .int .i64 o, .int .i64 t, .agg #[.slice ga G.length gc]] w fun e w' => ∃ va vc, e = .returned (.tuple #[.slice va (resPush L Fr k o t G).length vc, .int .i64 (pushE L Fr k o t G)]) ∧ Below w.heap.size w w' ∧ PtsAt w' va (resPush L Fr k o t G) := by
  have D : Hid (∀ o1 o2 : Obj, ((w.alloc o1).alloc o2).cell? ⟨w.heap.size, 0, none⟩ = some (.int .i64 k) → ((w.alloc o1).alloc o2).cell? ⟨w.heap.size + 1, 0, none⟩ = some (.slice ga G.length gc) → Calls Try.prog 30 #[.slice a L.length c, .int .i64 Fr, .int .i64 k, .int .i64 o, .int .i64 t, .func (.func 32) #[] #[.pointer (some ⟨w.heap.size + 1, 0, none⟩), .pointer (some ⟨w.heap.size, 0, none⟩)]] ((w.alloc o1).alloc o2) fun e w' => ∃ va vc, e = .returned (.tuple #[.slice va (resPush L Fr k o t G).length vc, .int .i64 (pushE L Fr k o t G)]) ∧ Below w.heap.size w w' ∧ PtsAt w' va (resPush L Fr k o t G)) := fun o1 o2 hc1 hc2 => by
    have h := changed_any 32 #[.pointer (some ⟨w.heap.size + 1, 0, none⟩), .pointer (some ⟨w.heap.size, 0, none⟩)] (enters_of Try.func32 (by kernel_rfl) rfl) w a c L Fr k o t (pushE2 L k G) (pushL L k G) (fun _ => True) ((w.alloc o1).alloc o2) hN hB hL (two_belowS _ _ _) (fun hH => by
      obtain ⟨R, q, rfl, hq, _⟩ := heldP_zero hH
      exact push1_any w ((w.alloc o1).alloc o2) (two_belowS _ _ _).size (w.heap.size + 1) w.heap.size L (kOf w a) q Fr R ga gc G hGN hGB (hG.below (two_belowS _ _ _)) hq hc2 hc1 (k_grs hL) (two_belowS _ _ _))
    rw [← push_then] at h
    refine h.mono ?_
    rintro e w' ⟨va, vc, e1, hb, _, _, hp⟩
    exact ⟨va, vc, e1, hb, hp _ (BoxEq.refl _ _ _)⟩
  clear hL hB hGB hG
  generalize resPush L Fr k o t G = M at *
  generalize pushE L Fr k o t G = E at *
  generalize L.length = n at *
  generalize G.length = gl at *
  go_enter Try.func12, Try.ntmps12
  go_wp2_with fail
  refine Calls.mono (D.out _ _ (by go_simp) (by go_simp)) ?_
  rintro e w1 ⟨va, vc, rfl, hb, hp⟩
  have HB : Hid (Below w.heap.size w w1) := hb
  have HP : Hid (PtsAt w1 va M) := hp
  clear hb hp D
  obtain ⟨ml, hml⟩ : ∃ z, M.length = z := ⟨_, rfl⟩
  have HML : Hid (M.length = ml) := hml
  rw [hml]
  clear hml
  go_wp2_with fail
  exact bodyPost_ret (v := .tuple #[.slice va ml vc, .int .i64 E]) (by simp [results, Try.results12, go_sem]) rfl (by first | exact ⟨va, vc, by rw [HML.out], HB.out, HP.out⟩ | exact ⟨va, ⟨vc, by rw [HML.out]⟩, HB.out, HP.out⟩)

theorem cell_keptP {w w' : World} {b o : Nat} (h : w'.heap[b]? = w.heap[b]?) : w'.cell? ⟨b, o, none⟩ = w.cell? ⟨b, o, none⟩ := by simp [World.cell?, h]
theorem frozen_keptP {w w' : World} {b o : Nat} (h : w'.heap[b]? = w.heap[b]?) : w'.frozen? ⟨b, o, none⟩ = w.frozen? ⟨b, o, none⟩ := World.frozen?_of_block (w := w) h
theorem tail_sliceG (ob oo OL ocap : Nat) (h : OL + 1 ≤ ocap) (hb : ocap ≤ 9223372036854775807) : ∃ o' c', (∀ W, (Instr.slice 41 (.slice (some ⟨ob, oo, none⟩) (OL + 1) ocap) (some (.int .i64 1)) none none).run Try.prog W = .ok (.slice (some ⟨ob, o', none⟩) OL c') W) ∧ (OL = 0 ∨ o' = oo + 1) := by
  by_cases e : ocap = 1
  · subst e
    have : OL = 0 := by omega
    subst this
    exact ⟨oo, 0, fun W => by go_simp, Or.inl rfl⟩
  · have h1 : ¬ ((ocap : Int) = 1) := by omega
    have h2 : (1 : Int) ≤ (ocap : Int) := by omega
    exact ⟨oo + 1, ocap - 1, fun W => by go_simp; intro h; omega, Or.inr rfl⟩

def pullE2 (L : List Pt) (k : Int) : Int := if (pt L k.toNat).cm.length = 0 then 8 else 0
theorem pull_then (L : List Pt) (Fr k o t : Int) : pullE L Fr k o t = thenE (heldPE L Fr k o t) (pullE2 L k) := rfl
/-- What was pulled lies in box gb; box rb lies as it lay. -/
def PullPost (lo : Nat) (w : World) (gb rb : Nat) (G : List Cl) (w' : World) : Prop := (∃ v, w'.cell? ⟨gb, 0, none⟩ = some v ∧ ∀ w'', BoxEq lo w.heap.size w' w'' → GrV w'' v G) ∧ w'.heap[rb]? = w.heap[rb]?

set_option maxRecDepth 100000 in
set_option maxHeartbeats 8000000 in
theorem pull1_any (w0 w : World) (h0 : w0.heap.size ≤ w.heap.size) (gb kb rb : Nat) (L : List Pt) (K : Nat → Value) (k : Nat) (hN : L.length ≤ 12) (hC : (pt L k).cm.length ≤ 16) (hk : k < L.length) (gz : Value) (hgb : w.cell? ⟨gb, 0, none⟩ = some gz) (hgf : w.frozen? ⟨gb, 0, none⟩ = false) (hkb : w.cell? ⟨kb, 0, none⟩ = some (.int .i64 (k : Int))) (hg0 : w0.heap.size ≤ gb) (hkg : kb ≠ gb) (hrb : rb < w.heap.size) (hrg : rb ≠ gb) (hgr : ∀ i, i < L.length → GrsV w0 (K i) (pt L i).cm) (hw : Below w0.heap.size w0 w) :
    ∀ (W : World) (v : Value), Below w.heap.size w W → W.ownsRow w.heap.size 47 5 v L.length (pcells L K) → Calls Try.prog 34 (#[v] ++ #[.pointer (some ⟨kb, 0, none⟩), .pointer (some ⟨gb, 0, none⟩)]) W fun e w' => e = .returned (.int .i64 (pullE2 L k)) ∧ Below w0.heap.size W w' ∧ ((pullE2 L k) ≠ 0 → Below W.heap.size W w') ∧ ((pullE2 L k) = 0 → PullPost w0.heap.size w gb rb (gr (pt L k).cm 0) w' ∧ ∃ K', ∀ w'', BoxEq w0.heap.size w.heap.size w' w'' → w''.ownsRow w.heap.size 47 5 v (pullL L k).length (pcells (pullL L k) K') ∧ ∀ i, i < (pullL L k).length → GrsV w'' (K' i) (pt (pullL L k) i).cm) := by
  intro W v hb hrow
  obtain ⟨g, cap, rfl, hg1, hg2⟩ := row_some hrow (by omega)
  have hk2 : (k : Int) < (L.length : Int) := by omega
  have ML : (pullL L k).length = L.length := by unfold pullL; simp
  have eL : pullL L k = L.set k { pt L k with cm := (pt L k).cm.drop 1 } := by unfold pullL; rw [Int.toNat_natCast]
  have kc := keepC hkb hb
  have gcl := keepC hgb hb
  have l1 : kb < w.heap.size := World.block_lt_of_cell? _ _ hkb
  have l2 : gb < w.heap.size := World.block_lt_of_cell? _ _ hgb
  have gf : W.frozen? ⟨gb, 0, none⟩ = false := (hb.frozen (by exact l2)).trans hgf
  have z1 := row_cells hrow rfl hk (show 3 < 5 by omega)
  obtain ⟨ca, cc, hKq, hsl, hGq⟩ := hgr k hk
  have y1 : W.cell? ⟨g, k * 5 + 3, none⟩ = some (.slice ca (pt L k).cm.length cc) := z1.trans (by rw [← hKq]; rfl)
  have f3 := hrow.frozenAt (k * 5 + 3)
  have HB : Hid (Below w.heap.size w W) := hb
  have HW0 : Hid (Below w0.heap.size w0 W) := hw.trans (hb.mono h0)
  have nkg : kb ≠ g := by omega
  have ngg : gb ≠ g := by omega
  unfold pullE2
  rw [Int.toNat_natCast]
  clear hkb hgb z1
  by_cases hz : (pt L k).cm.length = 0
  · rw [if_pos hz]
    rw [hz] at y1
    clear hrow hgr eL ML hsl hGq
    generalize L.length = n at *
    go_enter Try.func34, Try.ntmps34
    go_wp2_with fail
    go_ret
    exact ⟨rfl, Below.refl _ _, fun _ => Below.refl _ _, fun h => by cases h⟩
  · rw [if_neg hz]
    obtain ⟨OL, hOL⟩ : ∃ z, (pt L k).cm.length = z + 1 := ⟨(pt L k).cm.length - 1, by omega⟩
    obtain ⟨cb, co, ga, gc, rfl, d0, hcl⟩ := hGq 0 (by omega)
    obtain ⟨to', tc, hsli, hto⟩ := tail_sliceG cb co OL cc (by have := hsl.2.1; omega) hsl.2.2
    obtain ⟨i0, hi0, hz0, hz1, hz2⟩ := info_parts infoGraph
    have d1 := keepC d0 HW0.out
    rw [Nat.add_zero] at d1
    have dl : cb < w0.heap.size := World.block_lt_of_cell? _ _ d0
    have TG : Hid (∀ W', Below w0.heap.size w0 W' → GrsAt W' (some ⟨cb, to', none⟩) ((pt L k).cm.drop 1)) := fun W' hW' i hi => by
      have hi2 : i + 1 < (pt L k).cm.length := by simpa using (by simp at hi; omega : i + 1 < (pt L k).cm.length)
      rcases hto with h | h
      · omega
      · obtain ⟨b2, o2, ga2, gc2, e2, c2, hc2⟩ := (hGq.below hW') (i + 1) hi2
        cases e2
        refine ⟨cb, to', ga2, gc2, rfl, ?_, by rw [gr_drop _ hi2]; exact hc2⟩
        rw [gr_drop _ hi2, h, show co + 1 + i = co + (i + 1) by omega]
        exact c2
    have JG : Hid (∀ i, i < ((pt L k).cm.drop 1).length → GrV w0 (jOf w0 (some ⟨cb, to', none⟩) i) (gr ((pt L k).cm.drop 1) i)) := j_grs (TG.out w0 (Below.refl _ _))
    have JS : Hid (∀ W', Below w0.heap.size w0 W' → ∀ ad, some (⟨cb, to', none⟩ : Addr) = some ad → ∀ j u, (grow ((pt L k).cm.drop 1).length (jOf w0 (some ⟨cb, to', none⟩)))[j]? = some u → W'.cell? (ad.add j) = some u) := fun W' hW' ad e j u hj => by
      cases e
      have h1 := j_src (TG.out w0 (Below.refl _ _)) j u hj
      exact (hW'.cell (World.block_lt_of_cell? _ _ h1)).trans h1
    have DL : ((pt L k).cm.drop 1).length = OL := by simp; omega
    rw [DL] at JG JS
    have JL : Hid ((grow OL (jOf w0 (some ⟨cb, to', none⟩))).length = OL * 1) := by show _ = _; rw [grow_len, Nat.mul_one]
    have JO : Hid (∀ u ∈ grow OL (jOf w0 (some ⟨cb, to', none⟩)), u.oneCell' = true) := by
      have h := grow_one (C := (pt L k).cm.drop 1) (J := jOf w0 (some ⟨cb, to', none⟩)) (w := w0) (by rw [DL]; exact JG.out)
      rw [DL] at h
      exact h
    have FIN : Hid (∀ (w9 : World) (v9 : Value), Below W.heap.size (W.setCell ⟨gb, 0, none⟩ (.slice ga (gr (pt L k).cm 0).length gc)) w9 → w9.ownsRow W.heap.size 25 1 v9 OL (grow OL (jOf w0 (some ⟨cb, to', none⟩))) → PullPost w0.heap.size w gb rb (gr (pt L k).cm 0) (w9.setCell ⟨g, k * 5 + 3, none⟩ v9) ∧ ∃ K', ∀ w'', BoxEq w0.heap.size w.heap.size (w9.setCell ⟨g, k * 5 + 3, none⟩ v9) w'' → w''.ownsRow w.heap.size 47 5 (.slice (some ⟨g, 0, none⟩) L.length cap) (pullL L k).length (pcells (pullL L k) K') ∧ ∀ i, i < (pullL L k).length → GrsV w'' (K' i) (pt (pullL L k) i).cm) := fun w9 v9 hb9 hrow9 => by
      have hs9 := hb9.size
      simp only [World.size_setCell] at hs9
      have hblk : ∀ b, b < W.heap.size → b ≠ gb → w9.heap[b]? = W.heap[b]? := fun b h1 h2 => (hb9.block b h1).trans (Below.heap_setCell _ _ _ _ h2)
      have hB0 : Below w0.heap.size W w9 := ((Below.refl _ _).setCell hg0 _).trans (hb9.mono (by have := HB.out.size; omega))
      have hbS : Below w0.heap.size w0 (w9.setCell ⟨g, k * 5 + 3, none⟩ v9) := (HW0.out.trans hB0).setCell (by show w0.heap.size ≤ g; omega) _
      have hrw : w9.ownsRow w.heap.size 47 5 (.slice (some ⟨g, 0, none⟩) L.length cap) L.length (pcells L K) := owns_block hrow (fun b hbb => by
        have e : b = g := by cases hbb; rfl
        subst e
        exact hblk b hg2 (fun h => ngg h.symm))
      have a1 := row_put hrw (k := k) (f := 3) (u := v9) (v := v9) (x := { pt L k with cm := (pt L k).cm.drop 1 }) hk (by omega) rfl
      refine ⟨⟨⟨.slice ga (gr (pt L k).cm 0).length gc, ?_, fun w'' hbx => ⟨ga, gc, rfl, hcl.below (below_box hbS hbx)⟩⟩, ?_⟩, _, fun w'' hbx => ⟨by rw [ML, eL]; exact row_box a1 (Nat.le_refl _) hbx, fun i hi => ?_⟩⟩
      · have h1 : (W.setCell ⟨gb, 0, none⟩ (.slice ga (gr (pt L k).cm 0).length gc)).cell? ⟨gb, 0, none⟩ = some (.slice ga (gr (pt L k).cm 0).length gc) := by
          have := gcl
          go_simp
        rw [cell_keptP (Below.heap_setCell _ _ _ _ (by show gb ≠ g; exact ngg)), cell_keptP (hb9.block gb (by have := HB.out.size; omega))]
        exact h1
      · rw [Below.heap_setCell _ _ _ _ (by show rb ≠ g; omega), hblk rb (by have := HB.out.size; omega) hrg]
        exact HB.out.block rb hrb
      · rw [ML] at hi
        have hbX : Below w0.heap.size w0 w'' := below_box hbS hbx
        rw [eL, pt_set hi]
        by_cases e : i = k
        · rw [if_pos e, if_pos e.symm]
          dsimp only
          have hr9 : w''.ownsRow W.heap.size 25 1 v9 OL (grow OL (jOf w0 (some ⟨cb, to', none⟩))) := row_box (owns_block hrow9 (fun b hbb => Below.heap_setCell _ _ _ _ (by have := (hrow9.lt b hbb).1; show b ≠ g; omega))) HB.out.size hbx
          exact grs_own (B := W.heap.size) (J := jOf w0 (some ⟨cb, to', none⟩)) (by rw [DL]; exact hr9) (fun j hj => by rw [DL] at hj; exact (JG.out j hj).below hbX)
        · rw [if_neg e, if_neg (fun h => e h.symm)]
          exact (hgr i hi).below hbX
    have hOL16 : OL ≤ 16 := by omega
    rw [hOL] at y1
    clear hrow hgr eL ML hsl hGq hcl TG JG hto DL hKq hz hOL d0
    generalize gr (pt L k).cm 0 = G0 at *
    generalize G0.length = gl at *
    generalize pullL L k = M at *
    generalize grow OL (jOf w0 (some ⟨cb, to', none⟩)) = cs at *
    obtain ⟨n, hn⟩ : ∃ z, L.length = z := ⟨_, rfl⟩
    rw [hn] at hk2 hN FIN hk ⊢
    clear hn
    have hb1a : 0 + OL ≤ maxLen := by unfold maxLen; omega
    have hb2a : (0 + OL) * 24 ≤ 140737488355328 := by omega
    have hOL1 : ((OL : Int) + 1 = 0) = False := by simp; omega
    have hOL2 : decide ((OL : Int) + 1 = 0) = false := decide_eq_false (by omega)
    have hOL3 : ((OL : Int) + 1 == 0) = false := by simp; omega
    have hOL4 : (0 : Int) < (OL : Int) + 1 := by omega
    have nkb2 : kb ≠ gb := hkg
    have s1 : g < W.heap.size := hg2
    have s2 : kb < W.heap.size := World.block_lt_of_cell? _ _ kc
    have s3 : gb < W.heap.size := World.block_lt_of_cell? _ _ gcl
    have s4 : cb ≠ gb := by omega
    have s5 : cb ≠ g := by have := HB.out.size; omega
    go_enter Try.func34, Try.ntmps34
    go_wp2_with fail
    obtain ⟨X, hX⟩ : ∃ X, W.setCell ⟨gb, 0, none⟩ (.slice ga gl gc) = X := ⟨_, rfl⟩
    have u0 : X.cell? ⟨kb, 0, none⟩ = some (.int .i64 (k : Int)) := by rw [← hX]; exact (cell_keptP (Below.heap_setCell _ _ _ _ (by show kb ≠ gb; exact hkg))).trans kc
    have u1 : X.cell? ⟨g, k * 5 + 3, none⟩ = some (.slice (some ⟨cb, co, none⟩) (OL + 1) cc) := by rw [← hX]; exact (cell_keptP (Below.heap_setCell _ _ _ _ (by show g ≠ gb; omega))).trans y1
    have fX : X.frozen? ⟨g, k * 5 + 3, none⟩ = false := by rw [← hX]; exact (frozen_keptP (Below.heap_setCell _ _ _ _ (by show g ≠ gb; omega))).trans f3
    have HEX : Hid (X.heap.size = W.heap.size) := by show _ = _; rw [← hX]; simp
    have BX : Hid (Below w0.heap.size W X) := by rw [← hX]; exact (Below.refl _ _).setCell hg0 _
    rw [hX] at FIN ⊢
    clear hX d1 kc gcl gf y1 f3
    have FIN1 : Hid _ := fun w9 v9 h1 h2 => FIN.out w9 v9 h1 h2
    clear FIN
    refine wp_region_noPanic ?_
    refine wp_region_X (S := fun w'' => w''.cell? ⟨g, k * 5 + 3, none⟩ = some (.slice (some ⟨cb, co, none⟩) (OL + 1) cc) ∧ w''.cell? ⟨kb, 0, none⟩ = some (.int .i64 (k : Int))) 12 (by kernel_rfl) (by (try dsimp only); go_keep) (fun hHeld => ?_)
    refine wpAnyX_take (i := 0) (v := ?_) rfl (by kernel_rfl) (by kernel_rfl) (by kernel_rfl) (by kernel_rfl) (fun _ _ _ h => h) (Or.inl ⟨by rfl, ?_⟩) (by assumption) ?_
    rotate_left
    · intro w hSw; (try dsimp only at hSw); first | (go_simp; done) | (go_simp; with_reducible rfl)
    simp [Act.put]
    refine wpAnyX_take (i := 1) (v := ?_) rfl (by kernel_rfl) (by kernel_rfl) (by kernel_rfl) (by kernel_rfl) (fun _ _ _ h => h) (Or.inl ⟨by rfl, ?_⟩) (by assumption) ?_
    rotate_left
    · intro w hSw; (try dsimp only at hSw); first | (go_simp; done) | (go_simp; with_reducible rfl)
    simp [Act.put]
    refine wpAnyX_take (i := 3) (v := ?_) rfl (by kernel_rfl) (by kernel_rfl) (by kernel_rfl) (by kernel_rfl) (fun _ _ _ h => h) (Or.inl ⟨by rfl, ?_⟩) (by assumption) ?_
    rotate_left
    · intro w hSw; (try dsimp only at hSw); first | (go_simp; done) | (go_simp; with_reducible rfl)
    simp [Act.put]
    refine wpAnyX_take (i := 4) (v := ?_) rfl (by kernel_rfl) (by kernel_rfl) (by kernel_rfl) (by kernel_rfl) (fun _ _ _ h => h) (Or.inl ⟨by rfl, ?_⟩) (by assumption) ?_
    rotate_left
    · intro w hSw; (try dsimp only at hSw); first | (go_simp; done) | (go_simp; with_reducible rfl)
    simp [Act.put]
    refine wpAnyX_take (i := 5) (v := ?_) rfl (by kernel_rfl) (by kernel_rfl) (by kernel_rfl) (by kernel_rfl) (fun _ _ _ h => h) (Or.inl ⟨by rfl, ?_⟩) (by assumption) ?_
    rotate_left
    · intro w hSw; (try dsimp only at hSw); first | (go_simp; done) | (go_simp; with_reducible rfl)
    simp [Act.put]
    refine wpAnyX_take (i := 6) (v := ?_) rfl (by kernel_rfl) (by kernel_rfl) (by kernel_rfl) (by kernel_rfl) (fun _ _ _ h => h) (Or.inl ⟨by rfl, ?_⟩) (by assumption) ?_
    rotate_left
    · intro w hSw; (try dsimp only at hSw); first | (go_simp; done) | (go_simp; with_reducible rfl)
    simp [Act.put]
    refine wpAnyX_take (i := 7) (v := ?_) rfl (by kernel_rfl) (by kernel_rfl) (by kernel_rfl) (by kernel_rfl) (fun _ _ _ h => h) (Or.inl ⟨by rfl, ?_⟩) (by assumption) ?_
    rotate_left
    · intro w hSw; (try dsimp only at hSw); first | (go_simp; done) | (go_simp; with_reducible rfl)
    simp [Act.put]
    refine wpAnyX_take (i := 8) (v := ?_) rfl (by kernel_rfl) (by kernel_rfl) (by kernel_rfl) (by kernel_rfl) (fun _ _ _ h => h) (Or.inl ⟨by rfl, ?_⟩) (by assumption) ?_
    rotate_left
    · intro w hSw; (try dsimp only at hSw); first | (go_simp; done) | (go_simp; with_reducible rfl)
    simp [Act.put]
    refine wpAnyX_one (i := 2) (by kernel_rfl) rfl (fun K hK => ?_)
    go_simp
    refine hK.out _ _ ?_ (fun hHeld => ?_)
    · (try dsimp only)
      exact ⟨keepC u1 (((Below.refl X.heap.size X).drew.alloc (Nat.le_refl _) (.cells #[] 25))), keepC u0 (((Below.refl X.heap.size X).drew.alloc (Nat.le_refl _) (.cells #[] 25)))⟩
    clear hK K
    try simp [Act.put]
    refine wpAnyX_one (i := 9) (by kernel_rfl) rfl (fun K hK => ?_)
    refine step_append_all rfl (.tmp 21) (.tmp 27) 41 rfl X.heap.size 25 i0 (.agg #[.slice none 0 0]) 1 24 Try.underlying41 hi0 hz0 hz1 hz2 rfl (by decide) (.slice (some ⟨X.heap.size, 0, none⟩) 0 0) 0 [] rfl (own_g1 X.drew) (some ⟨cb, to', none⟩) OL tc cs (fun h => by cases h) rfl JL.out (JS.out _ ((HW0.out.trans BX.out).trans ((((Below.refl X.heap.size X).drew.alloc (Nat.le_refl _) (.cells #[] 25))).mono (by rw [HEX.out]; have := HW0.out.size; omega)))) JO.out hb1a hb2a (((Below.refl X.heap.size X).drew.alloc (Nat.le_refl _) (.cells #[] 25))).size ?_
    intro v9 w9 own9 grow9
    have HB9 : Hid (Below X.heap.size X w9) := (((Below.refl X.heap.size X).drew.alloc (Nat.le_refl _) (.cells #[] 25))).grown grow9 (((Below.refl X.heap.size X).drew.alloc (Nat.le_refl _) (.cells #[] 25))).size (fun kk hk => by cases hk; exact Nat.le_refl _)
    refine hK.out _ _ ?_ (fun hHeld => ?_)
    · exact ⟨keepC u1 HB9.out, keepC u0 HB9.out⟩
    have OW9 : Hid (w9.ownsRow W.heap.size 25 1 v9 OL cs) := by
      have h := own9
      rw [List.nil_append, Nat.zero_add] at h
      exact ownsRow_baseL h (by rw [HEX.out]; exact Nat.le_refl _)
    have t3 := keepC u1 HB9.out
    have f9 : w9.frozen? ⟨g, k * 5 + 3, none⟩ = false := (HB9.out.frozen (by show g < X.heap.size; rw [HEX.out]; exact s1)).trans fX
    obtain ⟨va9, vc9, hv9⟩ : ∃ a c, v9 = .slice a OL c := by
      rcases OW9.out.2 with ⟨e, e0⟩ | ⟨g5, cap5, cur5, e, _⟩
      · exact ⟨none, 0, by rw [e, e0]⟩
      · exact ⟨_, cap5, e⟩
    subst hv9
    clear hK K hHeld own9 grow9
    try simp [Act.put]
    refine wpAnyX_one (i := 10) (by kernel_rfl) rfl (fun K hK => ?_)
    go_simp
    refine hK.out _ _ ?_ (fun hHeld => ?_)
    · (try dsimp only)
      exact ⟨keepC u1 HB9.out, keepC u0 HB9.out⟩
    clear hK K
    try simp [Act.put]
    refine wpAnyX_take (i := 11) (v := ?_) rfl (by kernel_rfl) (by kernel_rfl) (by kernel_rfl) (by kernel_rfl) (fun _ _ _ h => h) (Or.inl ⟨by rfl, ?_⟩) (by assumption) ?_
    rotate_left
    · intro w hSw; (try dsimp only at hSw); first | (go_simp; done) | (go_simp; with_reducible rfl)
    simp [Act.put]
    refine wpAnyX_last (by kernel_rfl) rfl (fun K hK => ?_)
    go_simp
    refine hK.out _ _ ?_
    clear hK K
    try simp [Act.put]
    refine wpAnyX_done (by kernel_rfl) ?_ _
    refine NoPanic.normal ?_
    have FF9 : Hid _ := FIN1.out w9 _ (by rw [← HEX.out]; exact HB9.out) OW9.out
    have BW : Hid (Below w0.heap.size W (w9.setCell ⟨g, k * 5 + 3, none⟩ (.slice va9 OL vc9))) := (BX.out.trans (HB9.out.mono (by rw [HEX.out]; have := HB.out.size; omega))).setCell (by show w0.heap.size ≤ g; omega) _
    clear t3 f9 OW9 u0 u1 fX
    go_wp2_with fail
    go_ret
    first
    | exact ⟨rfl, BW.out, fun h => absurd rfl h, fun _ => FF9.out⟩
    | exact ⟨rfl, BW.out, FF9.out⟩

set_option maxRecDepth 100000 in
set_option maxHeartbeats 4000000 in
theorem rpull_any (a : Option Addr) (c : Nat) (L : List Pt) (Fr k o t : Int) (w : World) (hN : L.length ≤ 9223372036854775807) (hB : BigP L) (hL : PtsAt w a L) :
    Calls Try.prog 13 #[.slice a L.length c, .int .i64 Fr, .int .i64 k, .int .i64 o, .int .i64 t] w fun e w' => ∃ va vc ga gc, e = .returned (.tuple #[.slice va (resPull L Fr k o t).length vc, .agg #[.slice ga (pullG L Fr k o t).length gc], .int .i64 (pullE L Fr k o t)]) ∧ Below w.heap.size w w' ∧ PtsAt w' va (resPull L Fr k o t) ∧ ClsAt w' ga (pullG L Fr k o t) := by
  have D : Hid (∀ o1 : Obj, (((w.alloc o1).alloc (.cells #[.slice none 0 0] 25)).alloc (.cells #[.slice none 0 0] 25)).cell? ⟨w.heap.size, 0, none⟩ = some (.int .i64 k) → Calls Try.prog 30 #[.slice a L.length c, .int .i64 Fr, .int .i64 k, .int .i64 o, .int .i64 t, .func (.func 34) #[] #[.pointer (some ⟨w.heap.size, 0, none⟩), .pointer (some ⟨w.heap.size + 1 + 1, 0, none⟩)]] (((w.alloc o1).alloc (.cells #[.slice none 0 0] 25)).alloc (.cells #[.slice none 0 0] 25)) fun e w' => ∃ va vc, e = .returned (.tuple #[.slice va (resPull L Fr k o t).length vc, .int .i64 (pullE L Fr k o t)]) ∧ Below w.heap.size w w' ∧ (∀ v, PtsAt (w'.setCell ⟨w.heap.size + 1, 0, none⟩ v) va (resPull L Fr k o t)) ∧ w'.heap[w.heap.size + 1]? = some (.cells #[.slice none 0 0] 25 (0, 0)) ∧ ∃ ga gc, w'.cell? ⟨w.heap.size + 1 + 1, 0, none⟩ = some (.slice ga (pullG L Fr k o t).length gc) ∧ ∀ v, ClsAt (w'.setCell ⟨w.heap.size + 1, 0, none⟩ v) ga (pullG L Fr k o t)) := fun o1 hc => by
    have b3 : Below w.heap.size w (((w.alloc o1).alloc (.cells #[.slice none 0 0] 25)).alloc (.cells #[.slice none 0 0] 25)) := (two_belowS w _ _).alloc (by simp; omega) _
    have c3 : (((w.alloc o1).alloc (.cells #[.slice none 0 0] 25)).alloc (.cells #[.slice none 0 0] 25)).cell? ⟨w.heap.size + 1 + 1, 0, none⟩ = some (.slice none 0 0) := by
      have h := alloc_cell ((w.alloc o1).alloc (.cells #[.slice none 0 0] 25)) #[.slice none 0 0] 25 0 rfl
      simp only [World.size_alloc] at h
      exact h
    have f3 : (((w.alloc o1).alloc (.cells #[.slice none 0 0] 25)).alloc (.cells #[.slice none 0 0] 25)).frozen? ⟨w.heap.size + 1 + 1, 0, none⟩ = false := by
      have h := heap_alloc_new ((w.alloc o1).alloc (.cells #[.slice none 0 0] 25)) (.cells #[.slice none 0 0] 25)
      simp only [World.size_alloc] at h
      exact box_frozen h
    have r3 : (((w.alloc o1).alloc (.cells #[.slice none 0 0] 25)).alloc (.cells #[.slice none 0 0] 25)).heap[w.heap.size + 1]? = some (.cells #[.slice none 0 0] 25 (0, 0)) := by
      rw [Below.heap_alloc _ _ _ (by simp)]
      have h := heap_alloc_new (w.alloc o1) (.cells #[.slice none 0 0] 25)
      simp only [World.size_alloc] at h
      exact h
    have h := changed_any 34 #[.pointer (some ⟨w.heap.size, 0, none⟩), .pointer (some ⟨w.heap.size + 1 + 1, 0, none⟩)] (enters_of Try.func34 (by kernel_rfl) rfl) w a c L Fr k o t (pullE2 L k) (pullL L k) (PullPost w.heap.size (((w.alloc o1).alloc (.cells #[.slice none 0 0] 25)).alloc (.cells #[.slice none 0 0] 25)) (w.heap.size + 1 + 1) (w.heap.size + 1) (gr (pt L k.toNat).cm 0)) (((w.alloc o1).alloc (.cells #[.slice none 0 0] 25)).alloc (.cells #[.slice none 0 0] 25)) hN hB hL b3 (fun hH => by
      obtain ⟨R, q, rfl, hq, _⟩ := heldP_zero hH
      exact pull1_any w (((w.alloc o1).alloc (.cells #[.slice none 0 0] 25)).alloc (.cells #[.slice none 0 0] 25)) b3.size (w.heap.size + 1 + 1) w.heap.size (w.heap.size + 1) L (kOf w a) q R.few (portE_zero.1 (R.ok q hq)).2.2.2.2.1.1 hq (.slice none 0 0) c3 f3 hc (by omega) (by omega) (by first | (simp; done) | (simp; omega)) (by omega) (k_grs hL) b3)
    rw [← pull_then] at h
    refine h.mono ?_
    rintro e w' ⟨va, vc, e1, hb, hbad, hgood, hp⟩
    refine ⟨va, vc, e1, hb, fun v => hp _ (box_set1 _ v (by omega) (by first | (simp; done) | (simp; omega))), ?_⟩
    unfold pullG
    by_cases hE : pullE L Fr k o t = 0
    · rw [if_pos hE]
      obtain ⟨⟨v, hv, hall⟩, hr⟩ := hgood hE
      obtain ⟨ga, gc, e2, _⟩ := hall _ (BoxEq.refl _ _ _)
      refine ⟨hr.trans r3, ga, gc, by rw [hv, e2], fun v' => ?_⟩
      obtain ⟨ga', gc', e3, hcl⟩ := hall _ (box_set1 w' v' (o := 0) (b := w.heap.size + 1) (by omega) (by first | (simp; done) | (simp; omega)))
      rw [e2] at e3
      cases e3
      exact hcl
    · rw [if_neg hE]
      have hb2 := hbad hE
      exact ⟨(hb2.block _ (by first | (simp; done) | (simp; omega))).trans r3, none, 0, keepC c3 hb2, fun _ i hi => absurd hi (Nat.not_lt_zero _)⟩
  clear hL hB
  generalize resPull L Fr k o t = M at *
  generalize pullE L Fr k o t = E at *
  generalize pullG L Fr k o t = G0 at *
  generalize L.length = n at *
  go_enter Try.func13, Try.ntmps13
  go_wp2_with fail
  refine Calls.mono (D.out _ (by go_simp)) ?_
  rintro e w1 ⟨va, vc, rfl, hb, hp, hr, ga, gc, hg, hcl⟩
  have HB : Hid (Below w.heap.size w w1) := hb
  have HP : Hid _ := hp
  have HG : Hid _ := hcl
  have rc := box_cell hr
  have rf := box_frozen (o := 0) hr
  have sr : w.heap.size + 1 < w1.heap.size := World.block_lt_of_cell? _ _ rc
  clear hb hp hr hcl D
  obtain ⟨ml, hml⟩ : ∃ z, M.length = z := ⟨_, rfl⟩
  have HML : Hid (M.length = ml) := hml
  rw [hml]
  clear hml
  obtain ⟨gl, hgl⟩ : ∃ z, G0.length = z := ⟨_, rfl⟩
  have HGL : Hid (G0.length = gl) := hgl
  rw [hgl] at hg
  clear hgl
  go_wp2_with fail
  go_region
  have r9 : ((w1.setCell ⟨w.heap.size + 1, 0, none⟩ (.slice ga gl gc)).drew).cell? ⟨w.heap.size + 1, 0, none⟩ = some (.slice ga gl gc) := by go_simp
  have BW : Hid (Below w.heap.size w (w1.setCell ⟨w.heap.size + 1, 0, none⟩ (.slice ga gl gc)).drew) := (HB.out.setCell (by show w.heap.size ≤ w.heap.size + 1; omega) _).drew
  have P9 : Hid (PtsAt (w1.setCell ⟨w.heap.size + 1, 0, none⟩ (.slice ga gl gc)).drew va M) := HP.out _
  have G9 : Hid (ClsAt (w1.setCell ⟨w.heap.size + 1, 0, none⟩ (.slice ga gl gc)).drew ga G0) := HG.out _
  obtain ⟨w9, hw9⟩ : ∃ w9, (w1.setCell ⟨w.heap.size + 1, 0, none⟩ (.slice ga gl gc)).drew = w9 := ⟨_, rfl⟩
  rw [hw9] at r9 BW P9 G9 ⊢
  clear hw9
  go_wp2_with fail
  exact bodyPost_ret (v := .tuple #[.slice va ml vc, .agg #[.slice ga gl gc], .int .i64 E]) (by simp [results, Try.results13, go_sem, r9]) rfl (by first | exact ⟨va, vc, ga, gc, by rw [HML.out, HGL.out], BW.out, P9.out, G9.out⟩ | exact ⟨va, ⟨vc, ga, ⟨gc, by rw [HML.out, HGL.out]⟩, BW.out, P9.out, G9.out⟩⟩)
end Go.Proofs.Ytgjfmepbphfjoaa
