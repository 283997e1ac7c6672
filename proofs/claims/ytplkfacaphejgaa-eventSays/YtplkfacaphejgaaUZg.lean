/-
  The contract of Attach where a root is made.
-/
import Derived.Test.YtplkfacaphejgaaUZf
namespace Go.Proofs.Ytplkfacaphejgaa
open Go.RowKit

theorem att_low {w w1 : World} {a : Option Addr} {n c : Nat} {p u : Int} (hb : Below (w.heap.size + 1 + 1 + 1 + 1) ((((w.alloc (.cells #[.slice a n c] 24)).alloc (.cells #[.int .i64 p, .int .i64 u] 27)).alloc (.cells #[.slice none 0 0] 24)).alloc (.cells #[.int .i64 0, .int .i64 0] 27)) w1) :
    w1.cell? ⟨w.heap.size, 0, none⟩ = some (.slice a n c) ∧ w1.cell? ⟨w.heap.size + 1, 0, none⟩ = some (.int .i64 p) ∧ w1.cell? ⟨w.heap.size + 1, 1, none⟩ = some (.int .i64 u) ∧ w1.cell? ⟨w.heap.size + 1 + 1, 0, none⟩ = some (.slice none 0 0) ∧ w1.cell? ⟨w.heap.size + 1 + 1 + 1, 0, none⟩ = some (.int .i64 0) ∧ w1.cell? ⟨w.heap.size + 1 + 1 + 1, 1, none⟩ = some (.int .i64 0) ∧ (∀ o, w1.frozen? ⟨w.heap.size + 1 + 1, o, none⟩ = false) ∧ (∀ o, w1.frozen? ⟨w.heap.size + 1 + 1 + 1, o, none⟩ = false) := by
  refine ⟨?_, ?_, ?_, ?_, ?_, ?_, fun o => ?_, fun o => ?_⟩
  all_goals first | exact (hb.cell (by first | (simp; done) | (simp; omega))).trans (by go_simp) | exact (hb.frozen (by first | (simp; done) | (simp; omega))).trans (by go_simp)

set_option maxRecDepth 100000 in
set_option maxHeartbeats 2000000 in
theorem attach_ok (a : Option Addr) (c : Nat) (S : List Nd) (k f : Nat) (u : Int) (cl : Bool) (w : World) (wf : WF S) (hS : NdsAt w a S) (hk : k < S.length) (hE : findE S k u = 0) (hH : hostB S k = false) (hf : f < S.length) (hfr : freeB (nd S f) = true) (hall : ∀ i, i < f → freeB (nd S i) = false) :
    Calls Try.prog 23 #[.agg #[.slice a S.length c], .agg #[.int .i64 (k : Int), .int .i64 u], .bool cl] w fun e w' => ∃ g, e = .returned (.tuple #[.agg #[.slice (some ⟨g, 0, none⟩) S.length S.length], .agg #[.int .i64 (f : Int), .int .i64 ((nd S f).n + 1)], .int .i64 0]) ∧ Below w.heap.size w w' ∧ w.heap.size ≤ g ∧ OwnR w' g (S.set f (rootNd (nd S f) k cl)) := by
  have hN := wf.small
  have D0 : Hid (∀ W, NdsAt W a S → Calls _ _ _ _ _) := fun W hW => find_ok a c S k u W (by omega) wf.big hW hk hE (by have := wf.kids_small hk; omega)
  have d1 := fun W hW => isHost_any a c S (k : Int) W (by omega) hW (by omega)
  rw [hH] at d1
  have D1 : Hid _ := d1
  have D2 : Hid (∀ W, NdsAt W a S → Calls _ _ _ _ _) := fun W hW => make_own a c S 0 W hN (fun i hi => by have := wf.kids_small hi; omega) hW ((wf_iff _).2 wf) (by omega) (by omega) f hf hfr (wf.uses hf).1 hall
  have HS : Hid (NdsAt w a S) := hS
  have RT : Hid (∀ W g, OwnR W g (S.set f (madeNd (nd S f) 0)) → OwnR ((W.setCell ⟨g, f * 8 + 6, none⟩ (.int .i64 (k : Int))).setCell ⟨g, f * 8 + 7, none⟩ (.bool cl)) g (S.set f (rootNd (nd S f) k cl))) := fun W g h => by
    have h2 := h.root (k := f) (by simpa using hf) (k : Int) cl
    rw [nd_set S f f _ hf, if_pos rfl, List.set_set] at h2
    exact h2
  have RC : Hid (∀ W g, OwnR W g (S.set f (madeNd (nd S f) 0)) → g < W.heap.size ∧ (∀ o, W.frozen? ⟨g, o, none⟩ = false) ∧ (∃ v6 v7, W.cell? ⟨g, f * 8 + 6, none⟩ = some v6 ∧ W.cell? ⟨g, f * 8 + 7, none⟩ = some v7)) := fun W g ⟨F, hF, _⟩ => by
    rw [List.length_set] at hF
    exact ⟨hF.lt, hF.frozen, _, _, hF.cell (by omega), hF.cell (by omega)⟩
  have hf2 : (f : Int) < (S.length : Int) := by omega
  have hf3 : decide ((f : Int) < 0) = false := decide_eq_false (by omega)
  clear hS wf hE hH hfr hall d1
  obtain ⟨x0, hx0⟩ : ∃ x, nd S k = x := ⟨_, rfl⟩
  rw [hx0] at D0
  clear hx0
  obtain ⟨S1, hS1⟩ : ∃ S1, S.set f (madeNd (nd S f) 0) = S1 := ⟨_, rfl⟩
  obtain ⟨S2, hS2⟩ : ∃ S2, S.set f (rootNd (nd S f) k cl) = S2 := ⟨_, rfl⟩
  rw [hS1] at D2 RT RC
  rw [hS2] at RT ⊢
  clear hS1 hS2
  generalize (nd S f).n = nf at *
  generalize S.length = n at *
  go_enter Try.func23, Try.ntmps23
  go_wp2_with fail
  refine Calls.mono (D0.out _ (HS.out.below (four_below _ _ _ _ _))) ?_
  rintro e w2 ⟨fg, rfl, hb2, _⟩
  simp only [World.size_alloc] at hb2
  have HB2 : Hid (Below (w.heap.size + 1 + 1 + 1 + 1) ((((w.alloc (.cells #[.slice a n c] 24)).alloc (.cells #[.int .i64 (k : Int), .int .i64 u] 27)).alloc (.cells #[.slice none 0 0] 24)).alloc (.cells #[.int .i64 0, .int .i64 0] 27)) w2) := hb2
  have hs2 := hb2.size
  simp only [World.size_alloc] at hs2
  obtain ⟨l0, l1, l2, l3, l4, l5, l6, l7⟩ := att_low hb2
  have BW : Hid (∀ W, Below (w.heap.size + 1 + 1 + 1 + 1) ((((w.alloc (.cells #[.slice a n c] 24)).alloc (.cells #[.int .i64 (k : Int), .int .i64 u] 27)).alloc (.cells #[.slice none 0 0] 24)).alloc (.cells #[.int .i64 0, .int .i64 0] 27)) W → Below w.heap.size w W) := fun W h => (four_below _ _ _ _ _).trans (h.mono (by omega))
  clear hb2
  have q0 : w.heap.size < w2.heap.size := by omega
  have q1 : w.heap.size + 1 < w2.heap.size := by omega
  go_wp2_with fail
  refine Calls.mono (D1.out _ (HS.out.below (BW.out _ (HB2.out.alloc (by omega) _)))) ?_
  rintro e w3 ⟨rfl, hb3⟩
  simp only [World.size_alloc] at hb3
  have HB3 : Hid (Below (w.heap.size + 1 + 1 + 1 + 1) ((((w.alloc (.cells #[.slice a n c] 24)).alloc (.cells #[.int .i64 (k : Int), .int .i64 u] 27)).alloc (.cells #[.slice none 0 0] 24)).alloc (.cells #[.int .i64 0, .int .i64 0] 27)) w3) := (HB2.out.alloc (by omega) _).trans (hb3.mono (by omega))
  have hs3 := hb3.size
  simp only [World.size_alloc] at hs3
  clear hb3 l0 l1 l2 l3 l4 l5 l6 l7
  obtain ⟨l0, l1, l2, l3, l4, l5, l6, l7⟩ := att_low HB3.out
  go_wp2_with fail
  refine Calls.mono (D2.out _ (HS.out.below (BW.out _ HB3.out))) ?_
  rintro e w4 ⟨g, rfl, hb4, hg4, hO4⟩
  have HB4 : Hid (Below (w.heap.size + 1 + 1 + 1 + 1) ((((w.alloc (.cells #[.slice a n c] 24)).alloc (.cells #[.int .i64 (k : Int), .int .i64 u] 27)).alloc (.cells #[.slice none 0 0] 24)).alloc (.cells #[.int .i64 0, .int .i64 0] 27)) w4) := HB3.out.trans (hb4.mono (by omega))
  have hs4 := hb4.size
  clear hb4 l0 l1 l2 l3 l4 l5 l6 l7
  obtain ⟨l0, l1, l2, l3, l4, l5, l6, l7⟩ := att_low HB4.out
  obtain ⟨hgl, hfz, v6, v7, d6, d7⟩ := RC.out _ _ hO4
  have HO4 : Hid (OwnR w4 g S1) := hO4
  have e1 : ¬ g = w.heap.size + 1 := by omega
  have e2 : ¬ w.heap.size + 1 = g := by omega
  have e3 : ¬ g = w.heap.size + 1 + 1 := by omega
  have e4 : ¬ w.heap.size + 1 + 1 = g := by omega
  have e5 : ¬ g = w.heap.size + 1 + 1 + 1 := by omega
  have e6 : ¬ w.heap.size + 1 + 1 + 1 = g := by omega
  have q2 : w.heap.size + 1 < w4.heap.size := by omega
  have q3 : w.heap.size + 1 + 1 < w4.heap.size := by omega
  have q4 : w.heap.size + 1 + 1 + 1 < w4.heap.size := by omega
  have q5 : w.heap.size < w4.heap.size := by omega
  clear hO4 D0 D1 D2
  go_wp2_with fail
  first
    | (obtain ⟨W6, hW6⟩ : ∃ W6, W6 = ((((w4.setCell ⟨g, f * 8 + 6, none⟩ (.int .i64 (k : Int))).setCell ⟨g, f * 8 + 7, none⟩ (.bool cl)).alloc (.cells #[.slice (some ⟨g, 0, none⟩) n n] 24)).alloc (.cells #[.int .i64 (f : Int), .int .i64 (nf + 1)] 27)) := ⟨_, rfl⟩; rw [← hW6])
    | (obtain ⟨W6, hW6⟩ : ∃ W6, W6 = ((((w4.alloc (.cells #[.slice (some ⟨g, 0, none⟩) n n] 24)).alloc (.cells #[.int .i64 (f : Int), .int .i64 (nf + 1)] 27)).setCell ⟨g, f * 8 + 6, none⟩ (.int .i64 (k : Int))).setCell ⟨g, f * 8 + 7, none⟩ (.bool cl)) := ⟨_, rfl⟩; rw [← hW6])
  have HR6 : Hid (OwnR W6 g S2) := by
    rw [hW6]
    first
      | exact (RT.out w4 g HO4.out).up (fun b _ hlt => (((Below.refl _ _).alloc (Nat.le_refl _) _).alloc (by simp) _).block b hlt)
      | exact RT.out _ g (HO4.out.up (fun b _ hlt => (((Below.refl _ _).alloc (Nat.le_refl _) _).alloc (by simp) _).block b hlt))
  have hs6 : W6.heap.size = w4.heap.size + 1 + 1 := by rw [hW6]; simp
  have HB6 : Hid (Below w.heap.size w W6) := by
    rw [hW6]
    first
      | exact ((((BW.out _ HB4.out).setCell (by simp; omega) _).setCell (by simp; omega) _).alloc (by simp; omega) _).alloc (by simp; omega) _
      | exact ((((BW.out _ HB4.out).alloc (by omega) _).alloc (by simp; omega) _).setCell (by simp; omega) _).setCell (by simp; omega) _
  have y0 : W6.cell? ⟨w4.heap.size, 0, none⟩ = some (.slice (some ⟨g, 0, none⟩) n n) := by rw [hW6]; go_simp
  have y1 : W6.cell? ⟨w4.heap.size + 1, 0, none⟩ = some (.int .i64 (f : Int)) := by rw [hW6]; go_simp
  have y2 : W6.cell? ⟨w4.heap.size + 1, 1, none⟩ = some (.int .i64 (nf + 1)) := by rw [hW6]; go_simp
  have y3 : W6.cell? ⟨w.heap.size + 1 + 1, 0, none⟩ = some (.slice none 0 0) := by rw [hW6]; go_simp
  have y4 : W6.cell? ⟨w.heap.size + 1 + 1 + 1, 0, none⟩ = some (.int .i64 0) := by rw [hW6]; go_simp
  have y5 : W6.cell? ⟨w.heap.size + 1 + 1 + 1, 1, none⟩ = some (.int .i64 0) := by rw [hW6]; go_simp
  have y6 : ∀ o, W6.frozen? ⟨w.heap.size + 1 + 1, o, none⟩ = false := fun o => by rw [hW6]; go_simp
  have y7 : ∀ o, W6.frozen? ⟨w.heap.size + 1 + 1 + 1, o, none⟩ = false := fun o => by rw [hW6]; go_simp
  have z1 : w4.heap.size < W6.heap.size := by omega
  have z2 : w4.heap.size + 1 < W6.heap.size := by omega
  have z3 : w.heap.size + 1 + 1 < W6.heap.size := by omega
  have z4 : w.heap.size + 1 + 1 + 1 < W6.heap.size := by omega
  have z5 : ¬ w4.heap.size = w.heap.size + 1 + 1 := by omega
  have z6 : ¬ w4.heap.size + 1 = w.heap.size + 1 + 1 := by omega
  have z7 : ¬ w4.heap.size = w.heap.size + 1 + 1 + 1 := by omega
  have z8 : ¬ w4.heap.size + 1 = w.heap.size + 1 + 1 + 1 := by omega
  clear hW6 l0 l1 l2 l3 l4 l5 l6 l7 d6 d7 hfz
  go_region
  all_goals (try go_wp2)
  all_goals
    refine bodyPost_ret (v := .tuple #[.agg #[.slice (some ⟨g, 0, none⟩) n n], .agg #[.int .i64 (f : Int), .int .i64 (nf + 1)], .int .i64 0]) (by simp [results, Try.results23, go_sem, y3, y4, y5]) rfl ⟨g, rfl, ?_, by omega, ?_⟩
    · first
        | exact (((HB6.out.setCell (by simp; omega) _).setCell (by simp; omega) _).setCell (by simp; omega) _).drew
        | exact ((HB6.out.setCell (by simp; omega) _).setCell (by simp; omega) _).setCell (by simp; omega) _
    · refine HR6.out.up (fun b hb hlt => ?_)
      first
        | rw [heap_drew, Below.heap_setCell _ _ _ _ (by show b ≠ w.heap.size + 1 + 1 + 1; omega), Below.heap_setCell _ _ _ _ (by show b ≠ w.heap.size + 1 + 1 + 1; omega), Below.heap_setCell _ _ _ _ (by show b ≠ w.heap.size + 1 + 1; omega)]
        | rw [Below.heap_setCell _ _ _ _ (by show b ≠ w.heap.size + 1 + 1 + 1; omega), Below.heap_setCell _ _ _ _ (by show b ≠ w.heap.size + 1 + 1 + 1; omega), Below.heap_setCell _ _ _ _ (by show b ≠ w.heap.size + 1 + 1; omega)]
end Go.Proofs.Ytplkfacaphejgaa
