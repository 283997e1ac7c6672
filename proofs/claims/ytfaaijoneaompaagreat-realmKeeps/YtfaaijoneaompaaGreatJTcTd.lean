/-
  The contract of Copy.
-/
import Derived.Test.YtfaaijoneaompaaGreatJTbSp
namespace Go.Proofs.YtfaaijoneaompaaGreat
open Go.RowKit

theorem Own.step {wr w3 : World} {B g k : Nat} {S : List Nd} {kb kc : Nat → Nat} (h : Own wr B g S kb kc k) (hk : k < S.length) (hks : (nd S k).ks.length ≤ 1000) (hb : Below wr.heap.size wr w3) {kg : Nat} (hkg : wr.heap.size ≤ kg) (hrow : w3.rowIs kg 3 (nd S k).ks.length (fun j => .int .i64 ((nd S k).ks.getD j 0))) :
    Own ((((((((w3.setCell ⟨g, k * 8, none⟩ (.bool (nd S k).u)).setCell ⟨g, k * 8 + 1, none⟩ (.int .i64 (nd S k).n)).setCell ⟨g, k * 8 + 2, none⟩ (.int .i64 (nd S k).t)).setCell ⟨g, k * 8 + 3, none⟩ (.int .i64 (nd S k).m)).setCell ⟨g, k * 8 + 4, none⟩ (.int .i64 (nd S k).p)).setCell ⟨g, k * 8 + 5, none⟩ (.slice (some ⟨kg, 0, none⟩) (nd S k).ks.length (nd S k).ks.length)).setCell ⟨g, k * 8 + 6, none⟩ (.int .i64 (nd S k).h)).setCell ⟨g, k * 8 + 7, none⟩ (.bool (nd S k).c))
      B g S (fun i => if i = k then kg else kb i) (fun i => if i = k then (nd S k).ks.length else kc i) (k + 1) := by
  obtain ⟨hB, F, hF, hN, hg, hd⟩ := h
  have hglt := hF.lt
  have hF3 := hF.of_block (hb.block g hglt)
  have hwb : ∀ w' : World, Below (g + 1) w' w' := fun w' => Below.refl _ _
  have hoff : ∀ (b : Nat), b ≠ g → ((((((((w3.setCell ⟨g, k * 8, none⟩ (.bool (nd S k).u)).setCell ⟨g, k * 8 + 1, none⟩ (.int .i64 (nd S k).n)).setCell ⟨g, k * 8 + 2, none⟩ (.int .i64 (nd S k).t)).setCell ⟨g, k * 8 + 3, none⟩ (.int .i64 (nd S k).m)).setCell ⟨g, k * 8 + 4, none⟩ (.int .i64 (nd S k).p)).setCell ⟨g, k * 8 + 5, none⟩ (.slice (some ⟨kg, 0, none⟩) (nd S k).ks.length (nd S k).ks.length)).setCell ⟨g, k * 8 + 6, none⟩ (.int .i64 (nd S k).h)).setCell ⟨g, k * 8 + 7, none⟩ (.bool (nd S k).c)).heap[b]? = w3.heap[b]? := fun b hb => by
    repeat rw [Below.heap_setCell _ _ _ _ (by exact hb)]
  refine ⟨hB, _, row_set8 hF3 (k * 8) _ _ _ _ _ _ _ _, fun i hi => ?_, fun i hi => ?_, fun i hi j hj e => ?_⟩
  · dsimp only
    by_cases e : i = k
    · subst e
      rw [if_pos rfl, if_pos rfl]
      exact NdR.put8_here (hrow.of_block (hoff kg (by omega))) (Nat.le_refl _) hks (fun _ _ => rfl)
    · rw [if_neg e, if_neg e]
      have hi' : i < k := by omega
      have h1 := (hN i hi').below hb (hN i hi').row
      refine NdR.put8_other ?_ (by omega)
      obtain ⟨e0, e1, e2, e3, e4, e5, e6, e7, e8, e8b, G, hG, e9⟩ := h1
      exact ⟨e0, e1, e2, e3, e4, e5, e6, e7, e8, e8b, G, hG.of_block (hoff (kb i) (by have := hg i hi'; omega)), e9⟩
  · dsimp only
    by_cases e : i = k
    · rw [if_pos e]; omega
    · rw [if_neg e]; exact hg i (by omega)
  · dsimp only at e
    by_cases e1 : i = k
    · by_cases e2 : j = k
      · omega
      · rw [if_pos e1, if_neg e2] at e
        have := (hN j (by omega)).row
        omega
    · by_cases e2 : j = k
      · rw [if_neg e1, if_pos e2] at e
        have := (hN i (by omega)).row
        omega
      · rw [if_neg e1, if_neg e2] at e
        exact hd i (by omega) j (by omega) e

theorem Own.below {w w' : World} {B g k : Nat} {S : List Nd} {kb kc : Nat → Nat} (h : Own w B g S kb kc k) (hb : Below w.heap.size w w') : Own w' B g S kb kc k := by
  obtain ⟨hB, F, hF, hN, hg, hd⟩ := h
  exact ⟨hB, F, hF.of_block (hb.block g hF.lt), fun i hi => (hN i hi).below hb (hN i hi).row, hg, hd⟩

/-- A store elsewhere. -/
theorem Own.setOther {w : World} {B g k : Nat} {S : List Nd} {kb kc : Nat → Nat} (h : Own w B g S kb kc k) {a : Addr} (ha : a.block < g) (v : Value) : Own (w.setCell a v) B g S kb kc k := by
  obtain ⟨hB, F, hF, hN, hg, hd⟩ := h
  refine ⟨hB, F, hF.setOther (by omega) v, fun i hi => ?_, hg, hd⟩
  obtain ⟨e0, e1, e2, e3, e4, e5, e6, e7, e8, e8b, G, hG, e9⟩ := hN i hi
  exact ⟨e0, e1, e2, e3, e4, e5, e6, e7, e8, e8b, G, hG.setOther (by have := hg i hi; omega) v, e9⟩

set_option maxHeartbeats 1000000 in
theorem copy_any (a : Option Addr) (c : Nat) (S : List Nd) (w : World) (hN : S.length ≤ 24) (hK : ∀ i, i < S.length → (nd S i).ks.length ≤ 1000) (hS : NdsAt w a S) :
    Calls Tryz.prog 38 #[.agg #[.slice a S.length c]] w fun e w' => ∃ g kb kc, e = .returned (.agg #[.slice (some ⟨g, 0, none⟩) S.length S.length]) ∧ Below w.heap.size w w' ∧ Own w' w.heap.size g S kb kc S.length := by
  have HS : Hid (NdsAt w a S) := hS
  have HK : Hid _ := hK
  have ST : Hid (∀ (wr w3 : World) (g k kg : Nat) (kb kc : Nat → Nat), Own wr w.heap.size g S kb kc k → k < S.length → (nd S k).ks.length ≤ 1000 → Below wr.heap.size wr w3 → wr.heap.size ≤ kg → w3.rowIs kg 3 (nd S k).ks.length (fun j => .int .i64 ((nd S k).ks.getD j 0)) → _) := fun wr w3 g k kg kb kc h1 h2 h2b h3 h4 h5 => Own.step h1 h2 h2b h3 h4 h5
  clear hS hK
  have ZR : Hid (∀ W : World, w.heap.size ≤ W.heap.size → Own (W.alloc (.cells (madeCells zeroVs (S.length * 8)) 43)) w.heap.size W.heap.size S (fun _ => 0) (fun _ => 0) 0) := fun W hW => ⟨hW, _, row_madeNodes W S.length, fun i hi => absurd hi (Nat.not_lt_zero _), fun i hi => absurd hi (Nat.not_lt_zero _), fun i hi => absurd hi (Nat.not_lt_zero _)⟩
  have OC : Hid (∀ (wr : World) (g k : Nat) (kb kc : Nat → Nat), Own wr w.heap.size g S kb kc k → k < S.length → (g < wr.heap.size ∧ (∀ o, wr.frozen? ⟨g, o, none⟩ = false) ∧ ∃ F : Nat → Value, ∀ j, j < S.length * 8 → wr.cell? ⟨g, j, none⟩ = some (F j))) := fun wr g k kb kc h _ => by
    obtain ⟨_, F, hF, _⟩ := h
    exact ⟨hF.lt, hF.frozen, F, fun j hj => hF.cell hj⟩
  have NL : Hid (S.length = S.length) := rfl
  generalize hn : S.length = n at *
  have HN : Hid (S.length = n) := hn
  clear hn NL
  have hmk := makeNodes n hN
  go_enter Tryz.func38, Tryz.ntmps38
  go_wp2
  go_loopg [13] n (fun g s13 wr => ∃ (k : Nat) (kb kc : Nat → Nat), k ≤ n ∧ n - k ≤ g ∧ s13 = .int .i64 k ∧ Below (w.heap.size + 1 + 1) ((w.alloc (Obj.cells #[Value.slice a n c] 24)).alloc (Obj.cells #[Value.slice none 0 0] 24)) wr ∧ Hid (Own wr w.heap.size (w.heap.size + 1 + 1) S kb kc k))
  case atStart =>
    refine ⟨0, fun _ => 0, fun _ => 0, by omega, by omega, rfl, (Below.refl _ _).alloc (by simp) _, ?_⟩
    have := ZR.out ((w.alloc (Obj.cells #[Value.slice a n c] 24)).alloc (Obj.cells #[Value.slice none 0 0] 24)) (by simp; omega)
    simp only [World.size_alloc] at this
    exact this
  case round =>
    obtain ⟨k, kb, kc, hk, hg, rfl, hb, O⟩ := hrel
    have hB0 : Below w.heap.size w wr := (two_below _ _ _).trans (hb.mono (by omega))
    by_cases hlt : k < n
    · obtain ⟨b, o, rfl, hnd⟩ := HS.out k (by rw [HN.out]; exact hlt)
      obtain ⟨c0, c1, c2, c3, c4, ⟨ka, kcx, c5, hks⟩, c6, c7⟩ := hnd.below hB0
      have hbw := World.block_lt_of_cell? _ _ c0
      obtain ⟨hgl, hfz, F, hF⟩ := OC.out _ _ _ _ _ O.out hlt
      have d1 := fun o1 => copyNode_any (nd S k) ka kcx (wr.alloc o1) (Nat.le_trans (HK.out k hlt) (by omega)) (hks.below ((Below.refl _ _).alloc (Nat.le_refl _) o1))
      have ST2 : Hid (∀ (w3 : World) (kg : Nat), Below wr.heap.size wr w3 → wr.heap.size ≤ kg → w3.rowIs kg 3 (nd S k).ks.length (fun j => .int .i64 ((nd S k).ks.getD j 0)) → _) := fun w3 kg h3 h4 h5 => ST.out wr w3 _ k kg kb kc O.out hlt (HK.out k hlt) h3 h4 h5
      clear hks hnd
      generalize hx : nd S k = x at *
      clear hx
      go_wp2_with (go_at_call 61; refine (d1 _).mono ?_; rintro e w3 ⟨kg, rfl, hb3, hkg, hrow⟩; simp only [World.size_alloc] at hb3 hkg; have hb3' : Below wr.heap.size wr w3 := ((Below.refl _ _).alloc (Nat.le_refl _) _).trans (hb3.mono (by omega)); have HR : Hid _ := hrow; have q0 := (hb3'.cell (by exact hgl)).trans (hF (k * 8) (by omega)); have q1 := (hb3'.cell (by exact hgl)).trans (hF (k * 8 + 1) (by omega)); have q2 := (hb3'.cell (by exact hgl)).trans (hF (k * 8 + 2) (by omega)); have q3 := (hb3'.cell (by exact hgl)).trans (hF (k * 8 + 3) (by omega)); have q4 := (hb3'.cell (by exact hgl)).trans (hF (k * 8 + 4) (by omega)); have q5 := (hb3'.cell (by exact hgl)).trans (hF (k * 8 + 5) (by omega)); have q6 := (hb3'.cell (by exact hgl)).trans (hF (k * 8 + 6) (by omega)); have q7 := (hb3'.cell (by exact hgl)).trans (hF (k * 8 + 7) (by omega)); have hfz3 := fun o => (hb3'.frozen (by exact hgl)).trans (hfz o); clear hrow)
      go_roundg (n - (k + 1))
      case measure => omega
      case rel =>
        refine ⟨k + 1, _, _, by omega, by omega, by go_num, ?_, ST2.out w3 kg hb3' (by omega) HR.out⟩
        have hb4 := hb.trans (hb3'.mono (by have := hb.size; simp at this; omega))
        exact (((((((hb4.setCell (by simp) _).setCell (by simp) _).setCell (by simp) _).setCell (by simp) _).setCell (by simp) _).setCell (by simp) _).setCell (by simp) _).setCell (by simp) _
    · have : k = n := by omega
      subst this
      have y1 : wr.cell? ⟨w.heap.size + 1, 0, none⟩ = some (.slice none 0 0) := (hb.cell (by simp)).trans (by go_simp)
      have y2 : ∀ o, wr.frozen? ⟨w.heap.size + 1, o, none⟩ = false := fun o => (hb.frozen (by simp)).trans (by go_simp)
      go_wp2
      refine bodyPost_ret (v := .agg #[.slice (some ⟨w.heap.size + 1 + 1, 0, none⟩) k k]) (by simp [results, Tryz.results38, go_sem, y1]) rfl ⟨w.heap.size + 1 + 1, kb, kc, rfl, hB0.setCell (by simp) _, O.out.setOther (by simp) _⟩
end Go.Proofs.YtfaaijoneaompaaGreat

namespace Go.Proofs.YtfaaijoneaompaaGreat
open Go.RowKit

set_option maxHeartbeats 400000 in
theorem free_place (x : Nd) (k : Value) (w : World) :
    Calls Tryz.prog 70 #[.agg #[.bool x.u, .int .i64 x.n, .int .i64 x.t, .int .i64 x.m, .int .i64 x.p, k, .int .i64 x.h, .bool x.c]] w fun e w' => e = .returned (.bool (!x.u && decide (x.n < 1000000))) ∧ Below w.heap.size w w' := by
  obtain ⟨u, n, t, m, p, ks, h, c⟩ := x
  dsimp only
  cases u
  · by_cases hn : n < 1000000
    · have hd : (!false && decide (n < 1000000)) = true := by simp [hn]
      rw [hd]
      clear hd
      go_enter Tryz.func70, Tryz.ntmps70
      go_wp2
      go_ret
      exact ⟨rfl, (Below.refl _ _).alloc (Nat.le_refl _) _⟩
    · have hd : (!false && decide (n < 1000000)) = false := by simp [hn]
      rw [hd]
      clear hd
      go_enter Tryz.func70, Tryz.ntmps70
      go_wp2
      go_ret
      exact ⟨rfl, (Below.refl _ _).alloc (Nat.le_refl _) _⟩
  · go_enter Tryz.func70, Tryz.ntmps70
    go_wp2
    go_ret
    exact ⟨rfl, (Below.refl _ _).alloc (Nat.le_refl _) _⟩

def freeB (x : Nd) : Bool := !x.u && decide (x.n < 1000000)

set_option maxHeartbeats 400000 in
theorem firstFree_at (a : Option Addr) (c : Nat) (S : List Nd) (w : World) (hn : S.length ≤ 9223372036854775807) (hS : NdsAt w a S) (k : Nat) (hk : k < S.length) (hf : freeB (nd S k) = true) (hall : ∀ i, i < k → freeB (nd S i) = false) :
    Calls Tryz.prog 69 #[.slice a S.length c, .func (.func 70) #[] #[]] w fun e w' => e = .returned (.int .i64 k) ∧ Below w.heap.size w w' := by
  have HS : Hid (NdsAt w a S) := hS
  have HA : Hid _ := hall
  have HFk : Hid _ := hf
  clear hS hall hf
  generalize hN : S.length = n at *
  have HN : Hid _ := hN
  clear hN
  go_enter Tryz.func69, Tryz.ntmps69
  go_wp2
  go_loopg [8] n (fun g s8 wr => ∃ i : Nat, i ≤ k ∧ n - i ≤ g ∧ s8 = .int .i64 i ∧ Below w.heap.size w wr)
  case atStart => exact ⟨0, by omega, by omega, rfl, Below.refl _ _⟩
  case round =>
    obtain ⟨i, hi, hg, rfl, hb⟩ := hrel
    have hlt : i < n := by omega
    have hlt2 : (i : Int) < (n : Int) := by omega
    obtain ⟨b, o, rfl, c0, c1, c2, c3, c4, ⟨ka, kc, c5, _⟩, c6, c7⟩ := (HS.out.below hb) i (by rw [HN.out]; exact hlt)
    have d1 := fun v W => free_place (nd S i) v W
    rw [show (!(nd S i).u && decide ((nd S i).n < 1000000)) = freeB (nd S i) from rfl] at d1
    by_cases e : i = k
    · subst e
      rw [HFk.out] at d1
      generalize nd S i = x at *
      go_wp2_with (go_at_call 70; refine (d1 _ _).mono ?_; rintro e w' ⟨rfl, hb1⟩)
      go_ret
      exact ⟨rfl, hb.trans (hb1.mono hb.size)⟩
    · rw [HA.out i (by omega)] at d1
      generalize nd S i = x at *
      go_wp2_with (go_at_call 70; refine (d1 _ _).mono ?_; rintro e w' ⟨rfl, hb1⟩)
      go_roundg (n - (i + 1))
      case measure => omega
      case rel => exact ⟨i + 1, by omega, by omega, by go_num, hb.trans (hb1.mono hb.size)⟩

def unusedNd : Nd := ⟨false, 0, 0, 0, -1, [], -1, false⟩

theorem nd_replicate (n i : Nat) (x : Nd) (h : i < n) : nd (List.replicate n x) i = x := by
  rw [nd_elem (by simpa using h)]; simp

set_option maxHeartbeats 400000 in
theorem new_any (n : Nat) (w : World) (hn : n ≤ 24) :
    Calls Tryz.prog 40 #[.int .i64 n] w fun e w' => ∃ g, e = .returned (.tuple #[.agg #[.slice (some ⟨g, 0, none⟩) n n], .int .i64 0]) ∧ Below w.heap.size w w' ∧ NdsAt w' (some ⟨g, 0, none⟩) (List.replicate n unusedNd) := by
  have hmk := makeNodes n (by omega)
  go_enter Tryz.func40, Tryz.ntmps40
  go_wp2_with (go_at_call 22; refine (within_yes _ _ _ _ (by omega) (by omega)).mono ?_; rintro e w' ⟨rfl, rfl⟩)
  go_loopg [14] n (fun g s14 wr => ∃ (k : Nat) (F : Nat → Value), k ≤ n ∧ n - k ≤ g ∧ s14 = .int .i64 k ∧ Below (w.heap.size + 1) (w.alloc (Obj.cells #[Value.slice none 0 0] 24)) wr ∧ w.heap.size + 1 < wr.heap.size ∧ Hid (wr.rowIs (w.heap.size + 1) 43 (n * 8) F) ∧ Hid (∀ i, i < k → F (i * 8) = .bool false ∧ F (i * 8 + 1) = .int .i64 0 ∧ F (i * 8 + 2) = .int .i64 0 ∧ F (i * 8 + 3) = .int .i64 0 ∧ F (i * 8 + 4) = .int .i64 (-1) ∧ F (i * 8 + 5) = .slice none 0 0 ∧ F (i * 8 + 6) = .int .i64 (-1) ∧ F (i * 8 + 7) = .bool false))
  case atStart =>
    refine ⟨0, fun j => zeroVs[j % 8]!, Nat.zero_le _, by omega, rfl, (Below.refl _ _).alloc (by simp) _, by simp, ?_, (show Hid _ from fun i hi => absurd hi (Nat.not_lt_zero _))⟩
    have h := row_madeNodes (w.alloc (Obj.cells #[Value.slice none 0 0] 24)) n
    simp only [World.size_alloc] at h
    exact h
  case round =>
    obtain ⟨k, F, hk, hg, rfl, hb, hsz, hR, A⟩ := hrel
    have hc0 : wr.cell? ⟨w.heap.size, 0, none⟩ = some (.slice none 0 0) := (hb.cell (by simp)).trans (by go_simp)
    have hf0 : wr.frozen? ⟨w.heap.size, 0, none⟩ = false := (hb.frozen (by simp)).trans (by go_simp)
    by_cases hlt : k < n
    · have q0 := hR.out.cell (i := k * 8) (by omega)
      have q1 := hR.out.cell (i := k * 8 + 1) (by omega)
      have q2 := hR.out.cell (i := k * 8 + 2) (by omega)
      have q3 := hR.out.cell (i := k * 8 + 3) (by omega)
      have q4 := hR.out.cell (i := k * 8 + 4) (by omega)
      have q5 := hR.out.cell (i := k * 8 + 5) (by omega)
      have q6 := hR.out.cell (i := k * 8 + 6) (by omega)
      have q7 := hR.out.cell (i := k * 8 + 7) (by omega)
      have hfz := hR.out.frozen
      go_wp2_with (go_at_call 51; refine (unused_any _ _).mono ?_; rintro e w' ⟨rfl, rfl⟩)
      go_roundg (n - (k + 1))
      case measure => omega
      case rel =>
        refine ⟨k + 1, _, by omega, by omega, by go_num, ?_, by simp; omega, (row_set8 hR.out (k * 8) _ _ _ _ _ _ _ _).alloc _, (show Hid _ from fun i hi => ?_)⟩
        · exact ((((((((hb.setCell (by simp) _).setCell (by simp) _).setCell (by simp) _).setCell (by simp) _).setCell (by simp) _).setCell (by simp) _).setCell (by simp) _).setCell (by simp) _).alloc (by simp; omega) _
        · by_cases e : i = k
          · subst e
            unfold put8
            refine ⟨?_, ?_, ?_, ?_, ?_, ?_, ?_, ?_⟩
            · rw [if_neg (by omega), if_neg (by omega), if_neg (by omega), if_neg (by omega), if_neg (by omega), if_neg (by omega), if_neg (by omega), if_pos rfl]
            · rw [if_neg (by omega), if_neg (by omega), if_neg (by omega), if_neg (by omega), if_neg (by omega), if_neg (by omega), if_pos rfl]
            · rw [if_neg (by omega), if_neg (by omega), if_neg (by omega), if_neg (by omega), if_neg (by omega), if_pos rfl]
            · rw [if_neg (by omega), if_neg (by omega), if_neg (by omega), if_neg (by omega), if_pos rfl]
            · rw [if_neg (by omega), if_neg (by omega), if_neg (by omega), if_pos rfl]
            · rw [if_neg (by omega), if_neg (by omega), if_pos rfl]
            · rw [if_neg (by omega), if_pos rfl]
            · rw [if_pos rfl]
          · obtain ⟨e0, e1, e2, e3, e4, e5, e6, e7⟩ := A.out i (by omega)
            refine ⟨?_, ?_, ?_, ?_, ?_, ?_, ?_, ?_⟩
            all_goals
              rw [put8_other (by omega)]
              assumption
    · have : k = n := by omega
      subst this
      go_wp2
      refine bodyPost_ret (v := .tuple #[.agg #[.slice (some ⟨w.heap.size + 1, 0, none⟩) k k], .int .i64 0]) (by simp [results, Tryz.results40, go_sem, hc0]) rfl ⟨w.heap.size + 1, rfl, ?_, fun i hi => ?_⟩
      · exact (((Below.refl _ _).alloc (Nat.le_refl _) _).trans (hb.mono (by omega))).setCell (Nat.le_refl _) _
      · have hi' : i < k := by simpa using hi
        have hR2 := hR.out.setOther (a := ⟨w.heap.size, 0, none⟩) (by simp) (.slice (some ⟨w.heap.size + 1, 0, none⟩) k k)
        obtain ⟨e0, e1, e2, e3, e4, e5, e6, e7⟩ := A.out i hi'
        rw [nd_replicate k i _ hi']
        refine ⟨w.heap.size + 1, 0, rfl, ?_⟩
        rw [Nat.zero_add]
        refine ⟨?_, ?_, ?_, ?_, ?_, ⟨none, 0, ?_, fun j hj => absurd hj (Nat.not_lt_zero _)⟩, ?_, ?_⟩
        · rw [hR2.cell (by omega), e0]; rfl
        · rw [hR2.cell (by omega), e1]; rfl
        · rw [hR2.cell (by omega), e2]; rfl
        · rw [hR2.cell (by omega), e3]; rfl
        · rw [hR2.cell (by omega), e4]; rfl
        · rw [hR2.cell (by omega), e5]; rfl
        · rw [hR2.cell (by omega), e6]; rfl
        · rw [hR2.cell (by omega), e7]; rfl
end Go.Proofs.YtfaaijoneaompaaGreat
