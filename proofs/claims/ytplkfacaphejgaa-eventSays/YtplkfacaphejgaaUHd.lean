/-
  What a hearer is told: the program's callAt.
-/
import Derived.Test.YtplkfacaphejgaaUHcNx
import Derived.Test.YtplkfacaphejgaaURqZe
import Derived.Deep.RegionHeld3
namespace Go.Proofs.Ytplkfacaphejgaa
open Go.RowKit
set_option linter.unusedVariables false

theorem box4_cells {w : World} {b t : Nat} {v0 v1 v2 v3 : Value} (h : w.heap[b]? = some (.cells #[v0, v1, v2, v3] t (0, 0))) : w.cell? ⟨b, 0, none⟩ = some v0 ∧ w.cell? ⟨b, 1, none⟩ = some v1 ∧ w.cell? ⟨b, 2, none⟩ = some v2 ∧ w.cell? ⟨b, 3, none⟩ = some v3 ∧ ∀ o, w.frozen? ⟨b, o, none⟩ = false :=
  ⟨by simp [World.cell?, h], by simp [World.cell?, h], by simp [World.cell?, h], by simp [World.cell?, h], fun o => by simp [World.frozen?, h]⟩

theorem set4_0 {w : World} {b t : Nat} {v0 v1 v2 v3 : Value} (u : Value) (h : w.heap[b]? = some (.cells #[v0, v1, v2, v3] t (0, 0))) : (w.setCell ⟨b, 0, none⟩ u).heap[b]? = some (.cells #[u, v1, v2, v3] t (0, 0)) := by
  show (w.heap.modify b _)[b]? = _
  rw [Array.getElem?_modify, if_pos rfl, h]
  rfl
theorem set4_1 {w : World} {b t : Nat} {v0 v1 v2 v3 : Value} (u : Value) (h : w.heap[b]? = some (.cells #[v0, v1, v2, v3] t (0, 0))) : (w.setCell ⟨b, 1, none⟩ u).heap[b]? = some (.cells #[v0, u, v2, v3] t (0, 0)) := by
  show (w.heap.modify b _)[b]? = _
  rw [Array.getElem?_modify, if_pos rfl, h]
  rfl
theorem set4_2 {w : World} {b t : Nat} {v0 v1 v2 v3 : Value} (u : Value) (h : w.heap[b]? = some (.cells #[v0, v1, v2, v3] t (0, 0))) : (w.setCell ⟨b, 2, none⟩ u).heap[b]? = some (.cells #[v0, v1, u, v3] t (0, 0)) := by
  show (w.heap.modify b _)[b]? = _
  rw [Array.getElem?_modify, if_pos rfl, h]
  rfl
theorem set4_3 {w : World} {b t : Nat} {v0 v1 v2 v3 : Value} (u : Value) (h : w.heap[b]? = some (.cells #[v0, v1, v2, v3] t (0, 0))) : (w.setCell ⟨b, 3, none⟩ u).heap[b]? = some (.cells #[v0, v1, v2, u] t (0, 0)) := by
  show (w.heap.modify b _)[b]? = _
  rw [Array.getElem?_modify, if_pos rfl, h]
  rfl
theorem set4_all {w : World} {b t : Nat} {v0 v1 v2 v3 : Value} (u0 u1 u2 u3 : Value) (h : w.heap[b]? = some (.cells #[v0, v1, v2, v3] t (0, 0))) : ((((w.setCell ⟨b, 0, none⟩ u0).setCell ⟨b, 1, none⟩ u1).setCell ⟨b, 2, none⟩ u2).setCell ⟨b, 3, none⟩ u3).heap[b]? = some (.cells #[u0, u1, u2, u3] t (0, 0)) := set4_3 u3 (set4_2 u2 (set4_1 u1 (set4_0 u0 h)))
theorem set4_below {B : Nat} {a w : World} {b : Nat} (u0 u1 u2 u3 : Value) (h : Below B a w) (hb : B ≤ b) : Below B a ((((w.setCell ⟨b, 0, none⟩ u0).setCell ⟨b, 1, none⟩ u1).setCell ⟨b, 2, none⟩ u2).setCell ⟨b, 3, none⟩ u3) := (((h.setCell hb _).setCell hb _).setCell hb _).setCell hb _
theorem set4_size (w : World) (b : Nat) (u0 u1 u2 u3 : Value) : ((((w.setCell ⟨b, 0, none⟩ u0).setCell ⟨b, 1, none⟩ u1).setCell ⟨b, 2, none⟩ u2).setCell ⟨b, 3, none⟩ u3).heap.size = w.heap.size := by simp [World.setCell]

set_option maxRecDepth 100000 in
set_option maxHeartbeats 2000000 in
theorem callAt_any (a : Option Addr) (c : Nat) (S : List Nd) (k told : Nat) (d : Bool) (id : Int) (w : World) (hN : S.length ≤ 24) (hS : NdsAt w a S) (hk : k < S.length) (ht : told < S.length) :
    Calls Try.prog 15 #[.agg #[.slice a S.length c], .agg #[.int .i64 (told : Int), .bool d], .int .i64 id, .int .i64 (k : Int)] w fun e w' => e = .returned (.agg #[.int .i64 id, .int .i64 (told : Int), .int .i64 (targetF S k told), .int .i64 (phaseF (targetF S k told) told d)]) ∧ Below w.heap.size w w' := by
  have DT : Hid (∀ W, NdsAt W a S → Calls _ _ _ _ _) := fun W hW => target_any a c S k told W hN hW hk ht
  have HS : Hid (NdsAt w a S) := hS
  clear hS hk ht hN
  generalize targetF S k told = T at *
  obtain ⟨F, hF⟩ : ∃ F, phaseF T told d = F := ⟨_, rfl⟩
  have HF : Hid (phaseF T told d = F) := hF
  rw [hF]
  clear hF
  generalize S.length = n at *
  obtain ⟨W3, hW3⟩ : ∃ W3, ((w.alloc (.cells #[.slice a n c] 24)).alloc (.cells #[.int .i64 (told : Int), .bool d] 49)).alloc (.cells #[.int .i64 0, .int .i64 0, .int .i64 0, .int .i64 0] 36) = W3 := ⟨_, rfl⟩
  have hb3 : Below w.heap.size w W3 := by rw [← hW3]; exact ((one_belowS w _).alloc (by simp) _).alloc (by simp; omega) _
  have hs3 : W3.heap.size = w.heap.size + 3 := by rw [← hW3]; simp
  have l0 : W3.cell? ⟨w.heap.size, 0, none⟩ = some (.slice a n c) := by rw [← hW3]; exact keepC (alloc_cell1 w _ _ 0 _ rfl) (one_belowS _ _)
  have l1 : W3.cell? ⟨w.heap.size + 1, 0, none⟩ = some (.int .i64 (told : Int)) := by rw [← hW3]; exact keepC (alloc_cell2 w _ _ 0 _ rfl) (one_belowS _ _)
  have l2 : W3.cell? ⟨w.heap.size + 1, 1, none⟩ = some (.bool d) := by rw [← hW3]; exact keepC (alloc_cell2 w _ _ 1 _ rfl) (one_belowS _ _)
  have l3 : W3.heap[w.heap.size + 1 + 1]? = some (.cells #[.int .i64 0, .int .i64 0, .int .i64 0, .int .i64 0] 36 (0, 0)) := by
    rw [← hW3]
    have h := heap_alloc_new ((w.alloc (.cells #[.slice a n c] 24)).alloc (.cells #[.int .i64 (told : Int), .bool d] 49)) (.cells #[.int .i64 0, .int .i64 0, .int .i64 0, .int .i64 0] 36)
    simpa using h
  have HB3 : Hid _ := hb3
  have H3 : Hid (W3.heap.size = w.heap.size + 3) := hs3
  have L3 : Hid _ := l3
  have z0 : w.heap.size < W3.heap.size := by omega
  have z1 : w.heap.size + 1 < W3.heap.size := by omega
  have z2 : w.heap.size + 1 + 1 < W3.heap.size := by omega
  clear hb3 hs3 l3
  have CALL : Hid (∀ w7, Below W3.heap.size W3 w7 → w7.cell? ⟨w.heap.size, 0, none⟩ = some (.slice a n c) ∧ w7.cell? ⟨w.heap.size + 1, 0, none⟩ = some (.int .i64 (told : Int)) ∧ w7.cell? ⟨w.heap.size + 1, 1, none⟩ = some (.bool d) ∧ Hid (w7.heap[w.heap.size + 1 + 1]? = some (.cells #[.int .i64 0, .int .i64 0, .int .i64 0, .int .i64 0] 36 (0, 0))) ∧ Hid (Below w.heap.size w w7) ∧ w.heap.size + 1 + 1 < w7.heap.size) := fun w7 hb =>
    ⟨(hb.cell (by exact z0)).trans l0, (hb.cell (by exact z1)).trans l1, (hb.cell (by exact z1)).trans l2, (hb.block _ (by exact z2)).trans L3.out, HB3.out.trans (hb.mono HB3.out.size), Nat.lt_of_lt_of_le z2 hb.size⟩
  have NEW : Hid (∀ w7, Below (W3.alloc (.cells #[.int .i64 0, .int .i64 0, .int .i64 0, .int .i64 0] 36)).drew.heap.size (W3.alloc (.cells #[.int .i64 0, .int .i64 0, .int .i64 0, .int .i64 0] 36)).drew w7 → Hid (w7.heap[W3.heap.size]? = some (.cells #[.int .i64 0, .int .i64 0, .int .i64 0, .int .i64 0] 36 (0, 0))) ∧ W3.heap.size < w7.heap.size) := fun w7 hb => by
    have hs := hb.size
    have e1 : (W3.alloc (.cells #[.int .i64 0, .int .i64 0, .int .i64 0, .int .i64 0] 36)).drew.heap.size = W3.heap.size + 1 := by show (W3.alloc _).heap.size = _; simp
    exact ⟨(hb.block _ (by omega)).trans (heap_alloc_new W3 _), by omega⟩
  have ne2 : W3.heap.size ≠ w.heap.size + 1 + 1 := Nat.ne_of_gt z2
  have ne0 := World.new_ne W3 ⟨w.heap.size, 0, none⟩ l0
  have ne1 := World.new_ne W3 ⟨w.heap.size + 1, 0, none⟩ l1
  go_enter Try.func15, Try.ntmps15
  go_upto_region 1 with fail
  try rw [hW3]
  clear hW3
  go_region_held3 (fun w'' => w''.cell? ⟨w.heap.size, 0, none⟩ = some (.slice a n c) ∧ w''.cell? ⟨w.heap.size + 1, 0, none⟩ = some (.int .i64 (told : Int))) (go_keep) (first | (go_at_call 29; refine (Calls.mono (DT.out (W3.alloc (.cells #[.int .i64 0, .int .i64 0, .int .i64 0, .int .i64 0] 36)).drew ?nd) ?_); (case nd => exact HS.out.below ((HB3.out.alloc HB3.out.size _).drew)); rintro e w7 ⟨rfl, hb⟩; obtain ⟨p0, p1, p2, P3, HB7, hs7⟩ := CALL.out w7 (((one_belowS W3 _).drew).trans (hb.mono (by show W3.heap.size ≤ (W3.alloc _).heap.size; simp))); obtain ⟨P9, hs9⟩ := NEW.out w7 hb; have y0 : w.heap.size < w7.heap.size := (by omega); have y1 : w.heap.size + 1 < w7.heap.size := (by omega); obtain ⟨r0, r1, r2, r3, fz⟩ := box4_cells P9.out; have f0 := fz 0; have f1 := fz 1; have f2 := fz 2; have f3 := fz 3; obtain ⟨s0, s1, s2, s3, fy⟩ := box4_cells P3.out; have g0 := fy 0; have g1 := fy 1; have g2 := fy 2; have g3 := fy 3; clear hb fz fy) | (go_at_call 29; refine (Calls.mono (DT.out W3.drew ?nd) ?_); (case nd => exact HS.out.below HB3.out.drew); rintro e w7 ⟨rfl, hb⟩; obtain ⟨p0, p1, p2, P3, HB7, hs7⟩ := CALL.out w7 (((Below.refl _ _).drew).trans hb); have nx0 := World.new_ne w7 _ p0; have nx1 := World.new_ne w7 _ p1; have nx2 : w7.heap.size ≠ w.heap.size + 1 + 1 := Nat.ne_of_gt hs7; have y0 : w.heap.size < w7.heap.size := (by omega); have y1 : w.heap.size + 1 < w7.heap.size := (by omega); obtain ⟨s0, s1, s2, s3, fy⟩ := box4_cells P3.out; have g0 := fy 0; have g1 := fy 1; have g2 := fy 2; have g3 := fy 3; clear hb fy))
  rotate_left
  · clear CALL NEW DT
    obtain ⟨V, hV⟩ : ∃ V, (((w7.setCell ⟨W3.heap.size, 0, none⟩ (.int .i64 id)).setCell ⟨W3.heap.size, 1, none⟩ (.int .i64 (told : Int))).setCell ⟨W3.heap.size, 2, none⟩ (.int .i64 T)).setCell ⟨W3.heap.size, 3, none⟩ (.int .i64 3) = V := ⟨_, rfl⟩
    have hx : V.heap[W3.heap.size]? = some (.cells #[.int .i64 id, .int .i64 (told : Int), .int .i64 T, .int .i64 3] 36 (0, 0)) := by rw [← hV]; exact set4_all _ _ _ _ P9.out
    have hbV : Below W3.heap.size w7 V := by rw [← hV]; exact set4_below _ _ _ _ (Below.refl _ _) (Nat.le_refl _)
    have v2 : V.cell? ⟨w.heap.size + 1, 1, none⟩ = some (.bool d) := (hbV.cell (by exact z1)).trans p2
    have VZ : Hid (V.heap[w.heap.size + 1 + 1]? = some (.cells #[.int .i64 0, .int .i64 0, .int .i64 0, .int .i64 0] 36 (0, 0))) := (hbV.block _ z2).trans P3.out
    have HBV : Hid (Below w.heap.size w V) := HB7.out.trans (hbV.mono (by omega))
    have K1 : Hid (∀ x, (V.setCell ⟨W3.heap.size, 3, none⟩ x).heap[w.heap.size + 1 + 1]? = some (.cells #[.int .i64 0, .int .i64 0, .int .i64 0, .int .i64 0] 36 (0, 0)) ∧ Below w.heap.size w (V.setCell ⟨W3.heap.size, 3, none⟩ x)) := fun x => ⟨(Below.heap_setCell _ _ _ _ (fun e => ne2 e.symm)).trans VZ.out, HBV.out.setCell (by show w.heap.size ≤ W3.heap.size; omega) _⟩
    have K2 : Hid (∀ x y, ((V.setCell ⟨W3.heap.size, 3, none⟩ x).setCell ⟨W3.heap.size, 3, none⟩ y).heap[w.heap.size + 1 + 1]? = some (.cells #[.int .i64 0, .int .i64 0, .int .i64 0, .int .i64 0] 36 (0, 0)) ∧ Below w.heap.size w ((V.setCell ⟨W3.heap.size, 3, none⟩ x).setCell ⟨W3.heap.size, 3, none⟩ y)) := fun x y => ⟨(Below.heap_setCell _ _ _ _ (fun e => ne2 e.symm)).trans (K1.out x).1, (K1.out x).2.setCell (by show w.heap.size ≤ W3.heap.size; omega) _⟩
    have sV : W3.heap.size < V.heap.size := Nat.lt_of_lt_of_le hs9 hbV.size
    rw [hV]
    clear hV hbV p0 p1 p2 r0 r1 r2 r3 f0 f1 f2 f3 s0 s1 s2 s3 g0 g1 g2 g3 P3 P9
    obtain ⟨r0, r1, r2, r3, fz⟩ := box4_cells hx
    have f0 := fz 0
    have f1 := fz 1
    have f2 := fz 2
    have f3 := fz 3
    obtain ⟨s0, s1, s2, s3, fy⟩ := box4_cells VZ.out
    have g0 := fy 0
    have g1 := fy 1
    have g2 := fy 2
    have g3 := fy 3
    clear hx fz fy
    cases d with
    | true =>
      by_cases hT : T = (told : Int)
      · have hd : decide (T = (told : Int)) = true := decide_eq_true hT
        have hd2 : (T == (told : Int)) = true := by simp [hT]
        have HF2 : Hid (F = 2) := by show _ = _; rw [← HF.out]; unfold phaseF; rw [if_pos hT]
        clear hT HF
        go_wp2_with fail
        have hx := set4_all (.int .i64 id) (.int .i64 (told : Int)) (.int .i64 T) (.int .i64 2) ((K2.out (.int .i64 1) (.int .i64 2)).1)
        obtain ⟨t0, t1, t2, t3, _⟩ := box4_cells hx
        refine bodyPost_ret (v := .agg #[.int .i64 id, .int .i64 (told : Int), .int .i64 T, .int .i64 2]) (by simp [results, Try.results15, go_sem, t0, t1, t2, t3]) rfl ⟨by rw [HF2.out], set4_below _ _ _ _ ((K2.out (.int .i64 1) (.int .i64 2)).2) (by omega)⟩
      · have hd : decide (T = (told : Int)) = false := decide_eq_false hT
        have hd2 : (T == (told : Int)) = false := by simp [hT]
        have HF2 : Hid (F = 1) := by show _ = _; rw [← HF.out]; unfold phaseF; rw [if_neg hT]; rfl
        clear hT HF
        go_wp2_with fail
        have hx := set4_all (.int .i64 id) (.int .i64 (told : Int)) (.int .i64 T) (.int .i64 1) ((K1.out (.int .i64 1)).1)
        obtain ⟨t0, t1, t2, t3, _⟩ := box4_cells hx
        refine bodyPost_ret (v := .agg #[.int .i64 id, .int .i64 (told : Int), .int .i64 T, .int .i64 1]) (by simp [results, Try.results15, go_sem, t0, t1, t2, t3]) rfl ⟨by rw [HF2.out], set4_below _ _ _ _ ((K1.out (.int .i64 1)).2) (by omega)⟩
    | false =>
      by_cases hT : T = (told : Int)
      · have hd : decide (T = (told : Int)) = true := decide_eq_true hT
        have hd2 : (T == (told : Int)) = true := by simp [hT]
        have HF2 : Hid (F = 2) := by show _ = _; rw [← HF.out]; unfold phaseF; rw [if_pos hT]
        clear hT HF
        go_wp2_with fail
        have hx := set4_all (.int .i64 id) (.int .i64 (told : Int)) (.int .i64 T) (.int .i64 2) ((K1.out (.int .i64 2)).1)
        obtain ⟨t0, t1, t2, t3, _⟩ := box4_cells hx
        refine bodyPost_ret (v := .agg #[.int .i64 id, .int .i64 (told : Int), .int .i64 T, .int .i64 2]) (by simp [results, Try.results15, go_sem, t0, t1, t2, t3]) rfl ⟨by rw [HF2.out], set4_below _ _ _ _ ((K1.out (.int .i64 2)).2) (by omega)⟩
      · have hd : decide (T = (told : Int)) = false := decide_eq_false hT
        have hd2 : (T == (told : Int)) = false := by simp [hT]
        have HF2 : Hid (F = 3) := by show _ = _; rw [← HF.out]; unfold phaseF; rw [if_neg hT]; rfl
        clear hT HF
        go_wp2_with fail
        have hx := set4_all (.int .i64 id) (.int .i64 (told : Int)) (.int .i64 T) (.int .i64 3) (VZ.out)
        obtain ⟨t0, t1, t2, t3, _⟩ := box4_cells hx
        refine bodyPost_ret (v := .agg #[.int .i64 id, .int .i64 (told : Int), .int .i64 T, .int .i64 3]) (by simp [results, Try.results15, go_sem, t0, t1, t2, t3]) rfl ⟨by rw [HF2.out], set4_below _ _ _ _ (HBV.out) (by omega)⟩
  all_goals (
    clear CALL NEW DT
    cases d with
    | true =>
      by_cases hT : T = (told : Int)
      · have hd : decide (T = (told : Int)) = true := decide_eq_true hT
        have hd2 : (T == (told : Int)) = true := by simp [hT]
        have HF2 : Hid (F = 2) := by show _ = _; rw [← HF.out]; unfold phaseF; rw [if_pos hT]
        clear hT HF
        go_wp2_with fail
        have hx := set4_all (.int .i64 id) (.int .i64 (told : Int)) (.int .i64 T) (.int .i64 2) P3.out
        have hx2 := (Below.heap_alloc _ (.cells #[.int .i64 id, .int .i64 (told : Int), .int .i64 T, .int .i64 2] 36) _ (by rw [set4_size]; exact hs7)).trans hx
        obtain ⟨t0, t1, t2, t3, _⟩ := box4_cells hx2
        refine bodyPost_ret (v := .agg #[.int .i64 id, .int .i64 (told : Int), .int .i64 T, .int .i64 2]) (by simp [results, Try.results15, go_sem, t0, t1, t2, t3]) rfl ⟨by rw [HF2.out], (set4_below _ _ _ _ HB7.out (by omega)).alloc (by rw [set4_size]; omega) _⟩
      · have hd : decide (T = (told : Int)) = false := decide_eq_false hT
        have hd2 : (T == (told : Int)) = false := by simp [hT]
        have HF2 : Hid (F = 1) := by show _ = _; rw [← HF.out]; unfold phaseF; rw [if_neg hT]; rfl
        clear hT HF
        go_wp2_with fail
        have hx := set4_all (.int .i64 id) (.int .i64 (told : Int)) (.int .i64 T) (.int .i64 1) P3.out
        have hx2 := (Below.heap_alloc _ (.cells #[.int .i64 id, .int .i64 (told : Int), .int .i64 T, .int .i64 1] 36) _ (by rw [set4_size]; exact hs7)).trans hx
        obtain ⟨t0, t1, t2, t3, _⟩ := box4_cells hx2
        refine bodyPost_ret (v := .agg #[.int .i64 id, .int .i64 (told : Int), .int .i64 T, .int .i64 1]) (by simp [results, Try.results15, go_sem, t0, t1, t2, t3]) rfl ⟨by rw [HF2.out], (set4_below _ _ _ _ HB7.out (by omega)).alloc (by rw [set4_size]; omega) _⟩
    | false =>
      by_cases hT : T = (told : Int)
      · have hd : decide (T = (told : Int)) = true := decide_eq_true hT
        have hd2 : (T == (told : Int)) = true := by simp [hT]
        have HF2 : Hid (F = 2) := by show _ = _; rw [← HF.out]; unfold phaseF; rw [if_pos hT]
        clear hT HF
        go_wp2_with fail
        have hx := set4_all (.int .i64 id) (.int .i64 (told : Int)) (.int .i64 T) (.int .i64 2) P3.out
        have hx2 := (Below.heap_alloc _ (.cells #[.int .i64 id, .int .i64 (told : Int), .int .i64 T, .int .i64 2] 36) _ (by rw [set4_size]; exact hs7)).trans hx
        obtain ⟨t0, t1, t2, t3, _⟩ := box4_cells hx2
        refine bodyPost_ret (v := .agg #[.int .i64 id, .int .i64 (told : Int), .int .i64 T, .int .i64 2]) (by simp [results, Try.results15, go_sem, t0, t1, t2, t3]) rfl ⟨by rw [HF2.out], (set4_below _ _ _ _ HB7.out (by omega)).alloc (by rw [set4_size]; omega) _⟩
      · have hd : decide (T = (told : Int)) = false := decide_eq_false hT
        have hd2 : (T == (told : Int)) = false := by simp [hT]
        have HF2 : Hid (F = 3) := by show _ = _; rw [← HF.out]; unfold phaseF; rw [if_neg hT]; rfl
        clear hT HF
        go_wp2_with fail
        have hx := set4_all (.int .i64 id) (.int .i64 (told : Int)) (.int .i64 T) (.int .i64 3) P3.out
        have hx2 := (Below.heap_alloc _ (.cells #[.int .i64 id, .int .i64 (told : Int), .int .i64 T, .int .i64 3] 36) _ (by rw [set4_size]; exact hs7)).trans hx
        obtain ⟨t0, t1, t2, t3, _⟩ := box4_cells hx2
        refine bodyPost_ret (v := .agg #[.int .i64 id, .int .i64 (told : Int), .int .i64 T, .int .i64 3]) (by simp [results, Try.results15, go_sem, t0, t1, t2, t3]) rfl ⟨by rw [HF2.out], (set4_below _ _ _ _ HB7.out (by omega)).alloc (by rw [set4_size]; omega) _⟩)
end Go.Proofs.Ytplkfacaphejgaa
