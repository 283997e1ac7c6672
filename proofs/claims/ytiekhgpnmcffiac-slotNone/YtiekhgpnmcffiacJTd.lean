/-
  The contracts of New, of the search for a place, and of Make where there is one.
-/
import Derived.Test.YtiekhgpnmcffiacJTc
namespace Go.Proofs.Ytiekhgpnmcffiac
open Go.RowKit

set_option maxHeartbeats 400000 in
theorem free_place (x : Nd) (k : Value) (w : World) :
    Calls Try.prog 79 #[.agg #[.bool x.u, .int .i64 x.n, .int .i64 x.t, .int .i64 x.m, .int .i64 x.p, k, .int .i64 x.h, .bool x.c]] w fun e w' => e = .returned (.bool (!x.u && decide (x.n < 1000000))) ∧ Below w.heap.size w w' := by
  obtain ⟨u, n, t, m, p, ks, h, c⟩ := x
  dsimp only
  cases u
  · by_cases hn : n < 1000000
    · have hd : (!false && decide (n < 1000000)) = true := by simp [hn]
      rw [hd]
      clear hd
      go_enter Try.func79, Try.ntmps79
      go_wp2
      go_ret
      exact ⟨rfl, (Below.refl _ _).alloc (Nat.le_refl _) _⟩
    · have hd : (!false && decide (n < 1000000)) = false := by simp [hn]
      rw [hd]
      clear hd
      go_enter Try.func79, Try.ntmps79
      go_wp2
      go_ret
      exact ⟨rfl, (Below.refl _ _).alloc (Nat.le_refl _) _⟩
  · go_enter Try.func79, Try.ntmps79
    go_wp2
    go_ret
    exact ⟨rfl, (Below.refl _ _).alloc (Nat.le_refl _) _⟩

def freeB (x : Nd) : Bool := !x.u && decide (x.n < 1000000)

set_option maxHeartbeats 400000 in
theorem firstFree_at (a : Option Addr) (c : Nat) (S : List Nd) (w : World) (hn : S.length ≤ 9223372036854775807) (hS : NdsAt w a S) (k : Nat) (hk : k < S.length) (hf : freeB (nd S k) = true) (hall : ∀ i, i < k → freeB (nd S i) = false) :
    Calls Try.prog 78 #[.slice a S.length c, .func (.func 79) #[] #[]] w fun e w' => e = .returned (.int .i64 k) ∧ Below w.heap.size w w' := by
  have HS : Hid (NdsAt w a S) := hS
  have HA : Hid _ := hall
  have HFk : Hid _ := hf
  clear hS hall hf
  generalize hN : S.length = n at *
  have HN : Hid _ := hN
  clear hN
  go_enter Try.func78, Try.ntmps78
  go_wp2
  go_loopg [8] n (fun g s8 wr => ∃ i : Nat, i ≤ k ∧ n - i ≤ g ∧ s8 = .int .i64 i ∧ Below w.heap.size w wr)
  case atStart => exact ⟨0, by omega, by omega, rfl, Below.refl _ _⟩
  case round =>
    obtain ⟨i, hi, hg, rfl, hb⟩ := hrel
    have hlt : i < n := by omega
    have hlt2 : (i : Int) < (n : Int) := by omega
    obtain ⟨b, o, rfl, c0, c1, c2, c3, c4, ⟨ka, kc, c5, _⟩, c6, c7⟩ := (HS.out.below hb) i (by rw [HN.out]; exact hlt)
    have d1 := fun v W => free_place (nd S i) v W
    rw [show (!(nd S i).u && decide ((nd S i).n < 1000000)) = freeB (nd S i) from rfl] at d1
    by_cases e : i = k
    · subst e
      rw [HFk.out] at d1
      generalize nd S i = x at *
      go_wp2_with (go_at_call 79; refine (d1 _ _).mono ?_; rintro e w' ⟨rfl, hb1⟩)
      go_ret
      exact ⟨rfl, hb.trans (hb1.mono hb.size)⟩
    · rw [HA.out i (by omega)] at d1
      generalize nd S i = x at *
      go_wp2_with (go_at_call 79; refine (d1 _ _).mono ?_; rintro e w' ⟨rfl, hb1⟩)
      go_roundg (n - (i + 1))
      case measure => omega
      case rel => exact ⟨i + 1, by omega, by omega, by go_num, hb.trans (hb1.mono hb.size)⟩

def unusedNd : Nd := ⟨false, 0, 0, 0, -1, [], -1, false⟩

theorem nd_replicate (n i : Nat) (x : Nd) (h : i < n) : nd (List.replicate n x) i = x := by
  rw [nd_elem (by simpa using h)]; simp

set_option maxHeartbeats 400000 in
theorem new_any (n : Nat) (w : World) (hn : n ≤ 24) :
    Calls Try.prog 81 #[.int .i64 n] w fun e w' => ∃ g, e = .returned (.tuple #[.agg #[.slice (some ⟨g, 0, none⟩) n n], .int .i64 0]) ∧ Below w.heap.size w w' ∧ NdsAt w' (some ⟨g, 0, none⟩) (List.replicate n unusedNd) := by
  have hmk := makeNodes n (by omega)
  go_enter Try.func81, Try.ntmps81
  go_wp2_with (go_at_call 77; refine (within_yes _ _ _ _ (by omega) (by omega)).mono ?_; rintro e w' ⟨rfl, rfl⟩)
  go_loopg [14] n (fun g s14 wr => ∃ (k : Nat) (F : Nat → Value), k ≤ n ∧ n - k ≤ g ∧ s14 = .int .i64 k ∧ Below (w.heap.size + 1) (w.alloc (Obj.cells #[Value.slice none 0 0] 24)) wr ∧ w.heap.size + 1 < wr.heap.size ∧ Hid (wr.rowIs (w.heap.size + 1) 52 (n * 8) F) ∧ Hid (∀ i, i < k → F (i * 8) = .bool false ∧ F (i * 8 + 1) = .int .i64 0 ∧ F (i * 8 + 2) = .int .i64 0 ∧ F (i * 8 + 3) = .int .i64 0 ∧ F (i * 8 + 4) = .int .i64 (-1) ∧ F (i * 8 + 5) = .slice none 0 0 ∧ F (i * 8 + 6) = .int .i64 (-1) ∧ F (i * 8 + 7) = .bool false))
  case atStart =>
    refine ⟨0, fun j => zeroVs[j % 8]!, Nat.zero_le _, by omega, rfl, (Below.refl _ _).alloc (by simp) _, by simp, ?_, (show Hid _ from fun i hi => absurd hi (Nat.not_lt_zero _))⟩
    have h := row_madeNodes (w.alloc (Obj.cells #[Value.slice none 0 0] 24)) n
    simp only [World.size_alloc] at h
    exact h
  case round =>
    obtain ⟨k, F, hk, hg, rfl, hb, hsz, hR, A⟩ := hrel
    have hc0 : wr.cell? ⟨w.heap.size, 0, none⟩ = some (.slice none 0 0) := (hb.cell (by simp)).trans (by go_simp)
    have hf0 : wr.frozen? ⟨w.heap.size, 0, none⟩ = false := (hb.frozen (by simp)).trans (by go_simp)
    by_cases hlt : k < n
    · have q0 := hR.out.cell (i := k * 8) (by omega)
      have q1 := hR.out.cell (i := k * 8 + 1) (by omega)
      have q2 := hR.out.cell (i := k * 8 + 2) (by omega)
      have q3 := hR.out.cell (i := k * 8 + 3) (by omega)
      have q4 := hR.out.cell (i := k * 8 + 4) (by omega)
      have q5 := hR.out.cell (i := k * 8 + 5) (by omega)
      have q6 := hR.out.cell (i := k * 8 + 6) (by omega)
      have q7 := hR.out.cell (i := k * 8 + 7) (by omega)
      have hfz := hR.out.frozen
      go_wp2_with (go_at_call 102; refine (unused_any _ _).mono ?_; rintro e w' ⟨rfl, rfl⟩)
      go_roundg (n - (k + 1))
      case measure => omega
      case rel =>
        refine ⟨k + 1, _, by omega, by omega, by go_num, ?_, by simp; omega, (row_set8 hR.out (k * 8) _ _ _ _ _ _ _ _).alloc _, (show Hid _ from fun i hi => ?_)⟩
        · exact ((((((((hb.setCell (by simp) _).setCell (by simp) _).setCell (by simp) _).setCell (by simp) _).setCell (by simp) _).setCell (by simp) _).setCell (by simp) _).setCell (by simp) _).alloc (by simp; omega) _
        · by_cases e : i = k
          · subst e
            unfold put8
            refine ⟨?_, ?_, ?_, ?_, ?_, ?_, ?_, ?_⟩
            · rw [if_neg (by omega), if_neg (by omega), if_neg (by omega), if_neg (by omega), if_neg (by omega), if_neg (by omega), if_neg (by omega), if_pos rfl]
            · rw [if_neg (by omega), if_neg (by omega), if_neg (by omega), if_neg (by omega), if_neg (by omega), if_neg (by omega), if_pos rfl]
            · rw [if_neg (by omega), if_neg (by omega), if_neg (by omega), if_neg (by omega), if_neg (by omega), if_pos rfl]
            · rw [if_neg (by omega), if_neg (by omega), if_neg (by omega), if_neg (by omega), if_pos rfl]
            · rw [if_neg (by omega), if_neg (by omega), if_neg (by omega), if_pos rfl]
            · rw [if_neg (by omega), if_neg (by omega), if_pos rfl]
            · rw [if_neg (by omega), if_pos rfl]
            · rw [if_pos rfl]
          · obtain ⟨e0, e1, e2, e3, e4, e5, e6, e7⟩ := A.out i (by omega)
            refine ⟨?_, ?_, ?_, ?_, ?_, ?_, ?_, ?_⟩
            all_goals
              rw [put8_other (by omega)]
              assumption
    · have : k = n := by omega
      subst this
      go_wp2
      refine bodyPost_ret (v := .tuple #[.agg #[.slice (some ⟨w.heap.size + 1, 0, none⟩) k k], .int .i64 0]) (by simp [results, Try.results81, go_sem, hc0]) rfl ⟨w.heap.size + 1, rfl, ?_, fun i hi => ?_⟩
      · exact (((Below.refl _ _).alloc (Nat.le_refl _) _).trans (hb.mono (by omega))).setCell (Nat.le_refl _) _
      · have hi' : i < k := by simpa using hi
        have hR2 := hR.out.setOther (a := ⟨w.heap.size, 0, none⟩) (by simp) (.slice (some ⟨w.heap.size + 1, 0, none⟩) k k)
        obtain ⟨e0, e1, e2, e3, e4, e5, e6, e7⟩ := A.out i hi'
        rw [nd_replicate k i _ hi']
        refine ⟨w.heap.size + 1, 0, rfl, ?_⟩
        rw [Nat.zero_add]
        refine ⟨?_, ?_, ?_, ?_, ?_, ⟨none, 0, ?_, fun j hj => absurd hj (Nat.not_lt_zero _)⟩, ?_, ?_⟩
        · rw [hR2.cell (by omega), e0]; rfl
        · rw [hR2.cell (by omega), e1]; rfl
        · rw [hR2.cell (by omega), e2]; rfl
        · rw [hR2.cell (by omega), e3]; rfl
        · rw [hR2.cell (by omega), e4]; rfl
        · rw [hR2.cell (by omega), e5]; rfl
        · rw [hR2.cell (by omega), e6]; rfl
        · rw [hR2.cell (by omega), e7]; rfl
end Go.Proofs.Ytiekhgpnmcffiac
