/-
  What a store in a row of the call's own is, what a write makes of it, and the contract of New.
-/
import Derived.Test.YtefjjbbommgknaaB
namespace Go.Proofs.Ytefjjbbommgknaa
open Go.RowKit

theorem NdAt.below {B : Nat} {w w' : World} {b o : Nat} {x : Nd} (h : NdAt w b o x) (hb : Below B w w') (hB : b < B) : NdAt w' b o x := by
  unfold NdAt at h ⊢
  simp only [hb.cell (p := ⟨b, _, none⟩) hB]
  exact h

def NdF (F : Nat → Value) (o : Nat) (x : Nd) : Prop :=
  F o = .bool x.u ∧ F (o + 1) = .int .i64 x.n ∧ F (o + 2) = .int .i64 x.t ∧ F (o + 3) = .int .i64 x.m ∧ F (o + 4) = .int .i64 x.p ∧ (∃ ka kc, F (o + 5) = .slice ka 0 kc) ∧ F (o + 6) = .int .i64 x.h ∧ F (o + 7) = .bool x.c

def Sto (w : World) (g n : Nat) (f : Nat → Nd) : Prop :=
  ∃ F : Nat → Value, w.rowIs g 39 (n * 8) F ∧ ∀ i, i < n → NdF F (i * 8) (f i)

theorem Sto.lt {w : World} {g n : Nat} {f : Nat → Nd} (h : Sto w g n f) : g < w.heap.size := by
  obtain ⟨F, hF, _⟩ := h
  exact hF.lt

theorem Sto.node {w : World} {g n : Nat} {f : Nat → Nd} (h : Sto w g n f) {i : Nat} (hi : i < n) : NdAt w g (i * 8) (f i) := by
  obtain ⟨F, hF, hN⟩ := h
  obtain ⟨e0, e1, e2, e3, e4, ⟨ka, kc, e5⟩, e6, e7⟩ := hN i hi
  refine ⟨?_, ?_, ?_, ?_, ?_, ⟨ka, kc, ?_⟩, ?_, ?_⟩
  · rw [hF.cell (by omega), e0]
  · rw [hF.cell (by omega), e1]
  · rw [hF.cell (by omega), e2]
  · rw [hF.cell (by omega), e3]
  · rw [hF.cell (by omega), e4]
  · rw [hF.cell (by omega), e5]
  · rw [hF.cell (by omega), e6]
  · rw [hF.cell (by omega), e7]

theorem Sto.below {B : Nat} {w w' : World} (hb : Below B w w') {g n : Nat} {f : Nat → Nd} (hB : g < B) (h : Sto w g n f) : Sto w' g n f := by
  obtain ⟨F, hF, hN⟩ := h
  exact ⟨F, hF.of_block (hb.block g hB), hN⟩

theorem Sto.alloc {w : World} {g n : Nat} {f : Nat → Nd} (h : Sto w g n f) (o : Obj) : Sto (w.alloc o) g n f := by
  obtain ⟨F, hF, hN⟩ := h
  exact ⟨F, hF.alloc o, hN⟩

theorem Sto.setOther {w : World} {g n : Nat} {f : Nat → Nd} (h : Sto w g n f) {a : Addr} (ha : g ≠ a.block) (v : Value) : Sto (w.setCell a v) g n f := by
  obtain ⟨F, hF, hN⟩ := h
  exact ⟨F, hF.setOther ha v, hN⟩

theorem Sto.drewN {w : World} {g n : Nat} {f : Nat → Nd} (h : Sto w g n f) (q : Nat) : Sto (w.drewN q) g n f := h

theorem Sto.drew {w : World} {g n : Nat} {f : Nat → Nd} (h : Sto w g n f) : Sto w.drew g n f := h

theorem Sto.congr {w : World} {g n : Nat} {f f' : Nat → Nd} (h : Sto w g n f) (he : ∀ i, i < n → f i = f' i) : Sto w g n f' := by
  obtain ⟨F, hF, hN⟩ := h
  exact ⟨F, hF, fun i hi => by rw [← he i hi]; exact hN i hi⟩

theorem Sto.frozen {w : World} {g n : Nat} {f : Nat → Nd} (h : Sto w g n f) (o : Nat) : w.frozen? ⟨g, o, none⟩ = false := by
  obtain ⟨F, hF, _⟩ := h
  exact hF.frozen o

theorem Sto.set8 {w : World} {g n : Nat} {f : Nat → Nd} (h : Sto w g n f) {k : Nat} (x : Nd) (ka : Option Addr) (kc : Nat) :
    Sto ((((((((w.setCell ⟨g, k * 8, none⟩ (.bool x.u)).setCell ⟨g, k * 8 + 1, none⟩ (.int .i64 x.n)).setCell ⟨g, k * 8 + 2, none⟩ (.int .i64 x.t)).setCell ⟨g, k * 8 + 3, none⟩ (.int .i64 x.m)).setCell
      ⟨g, k * 8 + 4, none⟩ (.int .i64 x.p)).setCell ⟨g, k * 8 + 5, none⟩ (.slice ka 0 kc)).setCell ⟨g, k * 8 + 6, none⟩ (.int .i64 x.h)).setCell ⟨g, k * 8 + 7, none⟩ (.bool x.c)) g n (fun i => if i = k then x else f i) := by
  obtain ⟨F, hF, hN⟩ := h
  refine ⟨_, (((((((hF.set _ _).set _ _).set _ _).set _ _).set _ _).set _ _).set _ _).set _ _, fun i hi => ?_⟩
  by_cases e : i = k
  · have ex : (if i = k then x else f i) = x := if_pos e
    show NdF _ _ (if i = k then x else f i)
    rw [ex]
    subst e
    refine ⟨?_, ?_, ?_, ?_, ?_, ⟨ka, kc, ?_⟩, ?_, ?_⟩
    all_goals dsimp only
    · rw [if_neg (by omega), if_neg (by omega), if_neg (by omega), if_neg (by omega), if_neg (by omega), if_neg (by omega), if_neg (by omega), if_pos rfl]
    · rw [if_neg (by omega), if_neg (by omega), if_neg (by omega), if_neg (by omega), if_neg (by omega), if_neg (by omega), if_pos rfl]
    · rw [if_neg (by omega), if_neg (by omega), if_neg (by omega), if_neg (by omega), if_neg (by omega), if_pos rfl]
    · rw [if_neg (by omega), if_neg (by omega), if_neg (by omega), if_neg (by omega), if_pos rfl]
    · rw [if_neg (by omega), if_neg (by omega), if_neg (by omega), if_pos rfl]
    · rw [if_neg (by omega), if_neg (by omega), if_pos rfl]
    · rw [if_neg (by omega), if_pos rfl]
    · rw [if_pos rfl]
  · have ex : (if i = k then x else f i) = f i := if_neg e
    show NdF _ _ (if i = k then x else f i)
    rw [ex]
    obtain ⟨e0, e1, e2, e3, e4, ⟨ja, jc, e5⟩, e6, e7⟩ := hN i hi
    refine ⟨?_, ?_, ?_, ?_, ?_, ⟨ja, jc, ?_⟩, ?_, ?_⟩
    all_goals
      dsimp only
      rw [if_neg (by omega), if_neg (by omega), if_neg (by omega), if_neg (by omega), if_neg (by omega), if_neg (by omega), if_neg (by omega), if_neg (by omega)]
      assumption

def zeroNd : Nd := ⟨false, 0, 0, 0, 0, 0, false⟩
def zeroVs : Array Value := #[.bool false, .int .i64 0, .int .i64 0, .int .i64 0, .int .i64 0, .slice none 0 0, .int .i64 0, .bool false]

theorem made_get (n i : Nat) (h : i < n) : (madeCells zeroVs n)[i]? = some zeroVs[i % 8]! := by
  simp [madeCells, h, zeroVs]

theorem Sto.made (w : World) (n : Nat) : Sto (w.alloc (.cells (madeCells zeroVs (n * 8)) 39)) w.heap.size n (fun _ => zeroNd) := by
  refine ⟨fun j => zeroVs[j % 8]!, ?_, fun i hi => ?_⟩
  · have h := World.rowIs_alloc w (madeCells zeroVs (n * 8)) 39 (fun j => zeroVs[j % 8]!) (fun i hi => made_get _ _ (by rw [size_madeCells] at hi; exact hi))
    rw [size_madeCells] at h
    exact h
  · have e0 : i * 8 % 8 = 0 := by omega
    have e1 : (i * 8 + 1) % 8 = 1 := by omega
    have e2 : (i * 8 + 2) % 8 = 2 := by omega
    have e3 : (i * 8 + 3) % 8 = 3 := by omega
    have e4 : (i * 8 + 4) % 8 = 4 := by omega
    have e5 : (i * 8 + 5) % 8 = 5 := by omega
    have e6 : (i * 8 + 6) % 8 = 6 := by omega
    have e7 : (i * 8 + 7) % 8 = 7 := by omega
    unfold NdF
    simp only [e0, e1, e2, e3, e4, e5, e6, e7]
    exact ⟨rfl, rfl, rfl, rfl, rfl, ⟨none, 0, rfl⟩, rfl, rfl⟩

theorem make39 (n : Nat) (hn : n ≤ 1000) (w : World) : (Instr.makeSlice 27 (.int .i64 (n : Int)) (.int .i64 (n : Int))).run Try.prog w = .ok (.slice (some ⟨w.heap.size, 0, none⟩) n n) (w.alloc (.cells (madeCells zeroVs (n * 8)) 39)) := by
  obtain ⟨i, hi, hz0, hz1, hz2⟩ := info_parts info39
  have h := run_make (P := Try.prog) w 27 39 i _ Try.underlying27 hi hz0 .i64 .i64 n n (by omega) (by omega) (by rw [hz2]; omega) (by omega)
  rw [hz1] at h
  simp only [Int.toNat_natCast] at h
  exact h

set_option maxHeartbeats 400000 in
theorem new_any (n : Nat) (w : World) (hn : n ≤ 24) :
    Calls Try.prog 8 #[.int .i64 n] w fun e w' => ∃ g, e = .returned (.tuple #[.agg #[.slice (some ⟨g, 0, none⟩) n n], .int .i64 0]) ∧ Below w.heap.size w w' ∧ w.heap.size ≤ g ∧ Sto w' g n (fun _ => ⟨false, 0, 0, 0, -1, -1, false⟩) := by
  have hmk := make39 n (by omega)
  go_enter Try.func8, Try.ntmps8
  go_wp2_with (go_at_call 25; refine (within_yes _ _ _ _ (by omega) (by omega)).mono ?_; rintro e w' ⟨rfl, rfl⟩)
  go_loopg [14] n (fun g s14 wr => ∃ k : Nat, k ≤ n ∧ n - k ≤ g ∧ s14 = .int .i64 k ∧ Below (w.heap.size + 1) (w.alloc (Obj.cells #[Value.slice none 0 0] 29)) wr ∧ w.heap.size + 1 < wr.heap.size ∧ Sto wr (w.heap.size + 1) n (fun i => if i < k then ⟨false, 0, 0, 0, -1, -1, false⟩ else zeroNd))
  case atStart =>
    refine ⟨0, Nat.zero_le _, by omega, rfl, (Below.refl _ _).alloc (by simp) _, by simp, ?_⟩
    have h := Sto.made (w.alloc (Obj.cells #[Value.slice none 0 0] 29)) n
    simp only [World.size_alloc] at h
    exact h.congr (fun i _ => by simp)
  case round =>
    obtain ⟨k, hk, hg, rfl, hb, hsz, hS⟩ := hrel
    have hc0 : wr.cell? ⟨w.heap.size, 0, none⟩ = some (.slice none 0 0) := (hb.cell (by simp)).trans (by go_simp)
    have hf0 : wr.frozen? ⟨w.heap.size, 0, none⟩ = false := (hb.frozen (by simp)).trans (by go_simp)
    by_cases hlt : k < n
    · obtain ⟨c0, c1, c2, c3, c4, ⟨ka, kc, c5⟩, c6, c7⟩ := hS.node hlt
      have hfz := hS.frozen
      have HS : Hid (Sto wr (w.heap.size + 1) n (fun i => if i < k then ⟨false, 0, 0, 0, -1, -1, false⟩ else zeroNd)) := hS
      clear hS
      go_wp2_with (go_at_call 26; refine (unused_any _ _).mono ?_; rintro e w' ⟨rfl, rfl⟩)
      go_roundg (n - (k + 1))
      case measure => omega
      case rel =>
        have h8 := HS.out.set8 (k := k) ⟨false, 0, 0, 0, -1, -1, false⟩ none 0
        refine ⟨k + 1, by omega, by omega, by go_num, ?_, by simp; omega, (h8.alloc _).congr (fun i _ => ?_)⟩
        · exact ((((((((hb.setCell (by simp) _).setCell (by simp) _).setCell (by simp) _).setCell (by simp) _).setCell (by simp) _).setCell (by simp) _).setCell (by simp) _).setCell (by simp) _).alloc (by simp; omega) _
        · by_cases e : i = k
          · rw [if_pos e, if_pos (by omega)]
          · rw [if_neg e]
            by_cases e2 : i < k
            · rw [if_pos e2, if_pos (by omega)]
            · rw [if_neg e2, if_neg (by omega)]
    · have : k = n := by omega
      subst this
      have HS : Hid (Sto wr (w.heap.size + 1) k (fun i => if i < k then ⟨false, 0, 0, 0, -1, -1, false⟩ else zeroNd)) := hS
      clear hS
      go_wp2
      refine bodyPost_ret (v := .tuple #[.agg #[.slice (some ⟨w.heap.size + 1, 0, none⟩) k k], .int .i64 0]) (by simp [results, Try.results8, go_sem, hc0]) rfl ⟨w.heap.size + 1, rfl, ?_, by omega, ?_⟩
      · exact (((Below.refl _ _).alloc (Nat.le_refl _) _).trans (hb.mono (by omega))).setCell (Nat.le_refl _) _
      · exact (HS.out.setOther (by simp) _).congr (fun i hi => if_pos hi)

set_option maxHeartbeats 400000 in
theorem new_bad (n : Int) (w : World) (hn : n < 0 ∨ 24 < n) :
    Calls Try.prog 8 #[.int .i64 n] w fun e w' => e = .returned (.tuple #[.agg #[.slice none 0 0], .int .i64 2]) ∧ Below w.heap.size w w' := by
  go_enter Try.func8, Try.ntmps8
  go_wp2_with (go_at_call 25; refine (within_no _ _ _ _ (by omega)).mono ?_; rintro e w' ⟨rfl, rfl⟩)
  refine bodyPost_ret (v := .tuple #[.agg #[.slice none 0 0], .int .i64 2]) (by simp [results, Try.results8, go_sem]) rfl ⟨rfl, ?_⟩
  exact (Below.refl _ _).alloc (Nat.le_refl _) _

end Go.Proofs.Ytefjjbbommgknaa
