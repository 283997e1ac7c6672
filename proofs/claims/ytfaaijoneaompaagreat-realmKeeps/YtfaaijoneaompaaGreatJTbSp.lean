/-
  A store in memory of the call's own, and the contract of Copy.
-/
import Derived.Test.YtfaaijoneaompaaGreatJSmBkTa
namespace Go.Proofs.YtfaaijoneaompaaGreat
open Go.RowKit

/-- A node in a row F, its children in a row of their own. -/
def NdR (w : World) (F : Nat → Value) (o : Nat) (x : Nd) (kb kc : Nat) : Prop :=
  F o = .bool x.u ∧ F (o + 1) = .int .i64 x.n ∧ F (o + 2) = .int .i64 x.t ∧ F (o + 3) = .int .i64 x.m ∧ F (o + 4) = .int .i64 x.p ∧ F (o + 5) = .slice (some ⟨kb, 0, none⟩) x.ks.length kc ∧ F (o + 6) = .int .i64 x.h ∧ F (o + 7) = .bool x.c ∧
  x.ks.length ≤ kc ∧ kc ≤ 1000 ∧ ∃ G, w.rowIs kb 3 kc G ∧ ∀ j, j < x.ks.length → G j = .int .i64 (x.ks.getD j 0)

/-- A store in a row of the call's own; each list of children in a row of its own. -/
def Own (w : World) (B g : Nat) (S : List Nd) (kb kc : Nat → Nat) (k : Nat) : Prop :=
  B ≤ g ∧ ∃ F, w.rowIs g 43 (S.length * 8) F ∧ (∀ i, i < k → NdR w F (i * 8) (nd S i) (kb i) (kc i)) ∧ (∀ i, i < k → g < kb i) ∧ (∀ i, i < k → ∀ j, j < k → kb i = kb j → i = j)

theorem NdR.below {w w' : World} {F : Nat → Value} {o : Nat} {x : Nd} {kb kc B : Nat} (h : NdR w F o x kb kc) (hb : Below B w w') (hB : kb < B) : NdR w' F o x kb kc := by
  obtain ⟨e0, e1, e2, e3, e4, e5, e6, e7, e8, e8b, G, hG, e9⟩ := h
  exact ⟨e0, e1, e2, e3, e4, e5, e6, e7, e8, e8b, G, hG.of_block (hb.block kb hB), e9⟩

theorem NdR.row {w : World} {F : Nat → Value} {o : Nat} {x : Nd} {kb kc : Nat} (h : NdR w F o x kb kc) : kb < w.heap.size := by
  obtain ⟨_, _, _, _, _, _, _, _, _, _, G, hG, _⟩ := h
  exact hG.lt

theorem Own.nds {w : World} {B g : Nat} {S : List Nd} {kb kc : Nat → Nat} (h : Own w B g S kb kc S.length) : NdsAt w (some ⟨g, 0, none⟩) S := fun i hi => by
  obtain ⟨_, F, hF, hN, _, _⟩ := h
  obtain ⟨e0, e1, e2, e3, e4, e5, e6, e7, e8, e8b, G, hG, e9⟩ := hN i hi
  refine ⟨g, 0, rfl, ?_⟩
  rw [Nat.zero_add]
  refine ⟨?_, ?_, ?_, ?_, ?_, ⟨some ⟨kb i, 0, none⟩, kc i, ?_, fun j hj => ⟨kb i, 0, rfl, ?_⟩⟩, ?_, ?_⟩
  · rw [hF.cell (by omega), e0]
  · rw [hF.cell (by omega), e1]
  · rw [hF.cell (by omega), e2]
  · rw [hF.cell (by omega), e3]
  · rw [hF.cell (by omega), e4]
  · rw [hF.cell (by omega), e5]
  · rw [Nat.zero_add, hG.cell (by omega), e9 j hj]
  · rw [hF.cell (by omega), e6]
  · rw [hF.cell (by omega), e7]

def put8 (F : Nat → Value) (o : Nat) (v0 v1 v2 v3 v4 v5 v6 v7 : Value) : Nat → Value := fun j =>
  if j = o + 7 then v7 else if j = o + 6 then v6 else if j = o + 5 then v5 else if j = o + 4 then v4 else if j = o + 3 then v3 else if j = o + 2 then v2 else if j = o + 1 then v1 else if j = o then v0 else F j

theorem row_set8 {w : World} {g t n : Nat} {F : Nat → Value} (h : w.rowIs g t n F) (o : Nat) (v0 v1 v2 v3 v4 v5 v6 v7 : Value) :
    ((((((((w.setCell ⟨g, o, none⟩ v0).setCell ⟨g, o + 1, none⟩ v1).setCell ⟨g, o + 2, none⟩ v2).setCell ⟨g, o + 3, none⟩ v3).setCell ⟨g, o + 4, none⟩ v4).setCell ⟨g, o + 5, none⟩ v5).setCell ⟨g, o + 6, none⟩ v6).setCell ⟨g, o + 7, none⟩ v7).rowIs g t n (put8 F o v0 v1 v2 v3 v4 v5 v6 v7) :=
  (((((((h.set _ _).set _ _).set _ _).set _ _).set _ _).set _ _).set _ _).set _ _

theorem put8_other {F : Nat → Value} {o j : Nat} {v0 v1 v2 v3 v4 v5 v6 v7 : Value} (h : j < o ∨ o + 8 ≤ j) : put8 F o v0 v1 v2 v3 v4 v5 v6 v7 j = F j := by
  unfold put8
  rw [if_neg (by omega), if_neg (by omega), if_neg (by omega), if_neg (by omega), if_neg (by omega), if_neg (by omega), if_neg (by omega), if_neg (by omega)]

theorem NdR.put8_other {w : World} {F : Nat → Value} {o o' : Nat} {x : Nd} {kb kc : Nat} {v0 v1 v2 v3 v4 v5 v6 v7 : Value} (h : NdR w F o x kb kc) (ho : o + 8 ≤ o' ∨ o' + 8 ≤ o) : NdR w (put8 F o' v0 v1 v2 v3 v4 v5 v6 v7) o x kb kc := by
  obtain ⟨e0, e1, e2, e3, e4, e5, e6, e7, e8, e8b, G, hG, e9⟩ := h
  refine ⟨?_, ?_, ?_, ?_, ?_, ?_, ?_, ?_, e8, e8b, G, hG, e9⟩
  all_goals
    rw [YtfaaijoneaompaaGreat.put8_other (by omega)]
    assumption

theorem NdR.put8_here {w : World} {F : Nat → Value} {o : Nat} {x : Nd} {kb kc : Nat} {G : Nat → Value} (hG : w.rowIs kb 3 kc G) (hl : x.ks.length ≤ kc) (hl2 : kc ≤ 1000) (hg : ∀ j, j < x.ks.length → G j = .int .i64 (x.ks.getD j 0)) :
    NdR w (put8 F o (.bool x.u) (.int .i64 x.n) (.int .i64 x.t) (.int .i64 x.m) (.int .i64 x.p) (.slice (some ⟨kb, 0, none⟩) x.ks.length kc) (.int .i64 x.h) (.bool x.c)) o x kb kc := by
  refine ⟨?_, ?_, ?_, ?_, ?_, ?_, ?_, ?_, hl, hl2, G, hG, hg⟩
  all_goals unfold put8
  · rw [if_neg (by omega), if_neg (by omega), if_neg (by omega), if_neg (by omega), if_neg (by omega), if_neg (by omega), if_neg (by omega), if_pos rfl]
  · rw [if_neg (by omega), if_neg (by omega), if_neg (by omega), if_neg (by omega), if_neg (by omega), if_neg (by omega), if_pos rfl]
  · rw [if_neg (by omega), if_neg (by omega), if_neg (by omega), if_neg (by omega), if_neg (by omega), if_pos rfl]
  · rw [if_neg (by omega), if_neg (by omega), if_neg (by omega), if_neg (by omega), if_pos rfl]
  · rw [if_neg (by omega), if_neg (by omega), if_neg (by omega), if_pos rfl]
  · rw [if_neg (by omega), if_neg (by omega), if_pos rfl]
  · rw [if_neg (by omega), if_pos rfl]
  · rw [if_pos rfl]

def zeroVs : Array Value := #[.bool false, .int .i64 0, .int .i64 0, .int .i64 0, .int .i64 0, .slice none 0 0, .int .i64 0, .bool false]
theorem info43 : (Tryz.prog.info? 43).map (fun i => (i.zero, i.size, i.bytes)) = some (some (.agg #[.bool false, .int .i64 0, .int .i64 0, .int .i64 0, .int .i64 0, .slice none 0 0, .int .i64 0, .bool false]), 8, 80) := by kernel_rfl

theorem makeNodes (n : Nat) (hn : n ≤ 24) (w : World) : (Instr.makeSlice 22 (.int .i64 (n : Int)) (.int .i64 (n : Int))).run Tryz.prog w = .ok (.slice (some ⟨w.heap.size, 0, none⟩) n n) (w.alloc (.cells (madeCells zeroVs (n * 8)) 43)) := by
  obtain ⟨i, hi, hz0, hz1, hz2⟩ := info_parts info43
  have h := run_make (P := Tryz.prog) w 22 43 i _ Tryz.underlying22 hi hz0 .i64 .i64 n n (by omega) (by omega) (by rw [hz2]; omega) (by omega)
  rw [hz1] at h
  simp only [Int.toNat_natCast] at h
  exact h

theorem row_madeNodes (w : World) (n : Nat) : (w.alloc (.cells (madeCells zeroVs (n * 8)) 43)).rowIs w.heap.size 43 (n * 8) (fun j => zeroVs[j % 8]!) := by
  have h := World.rowIs_alloc w (madeCells zeroVs (n * 8)) 43 (fun j => zeroVs[j % 8]!) (fun i hi => by rw [size_madeCells] at hi; simp [madeCells, hi, zeroVs])
  rw [size_madeCells] at h
  exact h
end Go.Proofs.YtfaaijoneaompaaGreat

namespace Go.Proofs.YtfaaijoneaompaaGreat
open Go.RowKit

/-- Where v stands first, or -1. -/
def idx (ks : List Int) (v : Int) : Int := if v ∈ ks then (ks.idxOf v : Int) else -1

theorem idx_none {ks : List Int} {v : Int} (h : ∀ i, i < ks.length → ks.getD i 0 ≠ v) : idx ks v = -1 ∧ v ∉ ks := by
  have hn : v ∉ ks := fun hm => by
    obtain ⟨i, hi, e⟩ := List.getElem_of_mem hm
    exact h i hi (by rw [getD_elem ks 0 hi]; exact e)
  exact ⟨if_neg hn, hn⟩

theorem idxOf_first : ∀ (ks : List Int) (v : Int) (k : Nat), k < ks.length → ks.getD k 0 = v → (∀ i, i < k → ks.getD i 0 ≠ v) → ks.idxOf v = k
  | [], _, _, h, _, _ => by simp at h
  | x :: r, v, 0, _, h, _ => by
    have : x = v := by simpa using h
    rw [this]; simp
  | x :: r, v, k + 1, hk, h, hf => by
    have hx : x ≠ v := by simpa using hf 0 (by omega)
    have := idxOf_first r v k (by simpa using hk) (by simpa using h) (fun i hi => by simpa using hf (i + 1) (by omega))
    have hx1 : (x == v) = false := beq_eq_false_iff_ne.2 hx
    rw [List.idxOf_cons, this, hx1]
    rfl

theorem idx_some {ks : List Int} {v : Int} {k : Nat} (hk : k < ks.length) (h : ks.getD k 0 = v) (hf : ∀ i, i < k → ks.getD i 0 ≠ v) : idx ks v = k ∧ v ∈ ks := by
  have hm : v ∈ ks := by rw [← h, getD_elem ks 0 hk]; exact List.getElem_mem hk
  exact ⟨by unfold idx; rw [if_pos hm, idxOf_first ks v k hk h hf], hm⟩

set_option maxHeartbeats 400000 in
theorem index_any (a : Option Addr) (c : Nat) (ks : List Int) (v : Int) (w : World) (hbig : ks.length ≤ 9223372036854775807) (hks : IntsAt w a ks) :
    Calls Tryz.prog 17 #[.slice a ks.length c, .int .i64 v] w fun e w' => e = .returned (.int .i64 (idx ks v)) ∧ w' = w := by
  have N : Hid ((∀ i, i < ks.length → ks.getD i 0 ≠ v) → idx ks v = -1) := fun h => (idx_none h).1
  have Sm : Hid (∀ k, k < ks.length → ks.getD k 0 = v → (∀ i, i < k → ks.getD i 0 ≠ v) → idx ks v = k) := fun k h1 h2 h3 => (idx_some h1 h2 h3).1
  generalize idx ks v = r at *
  generalize hn : ks.length = n at *
  have HN : Hid (ks.length = n) := hn
  clear hn
  go_enter Tryz.func17, Tryz.ntmps17
  go_wp2
  go_loopg [8] n (fun g s8 wr => ∃ k : Nat, k ≤ n ∧ n - k ≤ g ∧ s8 = .int .i64 k ∧ wr = w ∧ Hid (∀ i, i < k → ks.getD i 0 ≠ v))
  case atStart => exact ⟨0, by omega, by omega, rfl, rfl, fun i hi => by omega⟩
  case round =>
    obtain ⟨k, hk, hg, rfl, rfl, A⟩ := hrel
    by_cases hlt : k < n
    · obtain ⟨b, o, rfl, hc⟩ := hks k (by rw [HN.out]; exact hlt)
      clear hks
      by_cases he : v = ks.getD k 0
      · have Z := Sm.out k hlt he.symm A.out
        subst Z
        rw [← he] at hc
        clear he
        go_wp2
        go_ret
        exact ⟨rfl, rfl⟩
      · have HE : Hid (ks.getD k 0 ≠ v) := fun e => he e.symm
        have h1 : (v == ks.getD k 0) = false := beq_eq_false_iff_ne.2 he
        generalize hy : ks.getD k 0 = y at *
        have HY : Hid _ := hy
        clear hy
        go_wp2
        go_roundg (n - (k + 1))
        case measure => omega
        case rel =>
          refine ⟨k + 1, by omega, by omega, by go_num, rfl, (show Hid _ from fun i hi => ?_)⟩
          by_cases e : i = k
          · rw [e, HY.out]; exact HE.out
          · exact A.out i (by omega)
    · have : k = n := by omega
      subst this
      have Z := N.out A.out
      subst Z
      clear hks
      go_wp2
      go_ret
      exact ⟨rfl, rfl⟩

theorem idx_nonneg (ks : List Int) (v : Int) : decide (0 ≤ idx ks v) = decide (v ∈ ks) := by
  unfold idx
  by_cases h : v ∈ ks
  · rw [if_pos h, decide_eq_true h, decide_eq_true (by omega)]
  · rw [if_neg h, decide_eq_false h, decide_eq_false (by omega)]

set_option maxHeartbeats 400000 in
theorem contains_any (a : Option Addr) (c : Nat) (ks : List Int) (v : Int) (w : World) (hbig : ks.length ≤ 9223372036854775807) (hks : IntsAt w a ks) :
    Calls Tryz.prog 7 #[.slice a ks.length c, .int .i64 v] w fun e w' => e = .returned (.bool (decide (v ∈ ks))) ∧ w' = w := by
  have h := index_any a c ks v w hbig hks
  rw [← idx_nonneg]
  clear hks
  generalize idx ks v = r at *
  generalize ks.length = n at *
  go_enter Tryz.func7, Tryz.ntmps7
  go_wp2_with (go_at_call 17; refine h.mono ?_; rintro e w' ⟨rfl, rfl⟩)
  go_ret
  exact ⟨rfl, rfl⟩

theorem IntsAt.take {w : World} {a : Option Addr} {ks : List Int} (h : IntsAt w a ks) (k : Nat) : IntsAt w a (ks.take k) := fun i hi => by
  rw [List.length_take] at hi
  obtain ⟨b, o, e, hc⟩ := h i (by omega)
  refine ⟨b, o, e, ?_⟩
  rw [hc, getD_elem ks 0 (by omega), getD_elem (ks.take k) 0 (by rw [List.length_take]; omega), List.getElem_take]

theorem law_low {w w1 : World} {a : Option Addr} {n c : Nat} {p u : Int} (hb : Below (w.heap.size + 1 + 1) ((w.alloc (.cells #[.slice a n c] 24)).alloc (.cells #[.int .i64 p, .int .i64 u] 45)) w1) :
    w1.cell? ⟨w.heap.size, 0, none⟩ = some (.slice a n c) ∧ w1.cell? ⟨w.heap.size + 1, 0, none⟩ = some (.int .i64 p) ∧ w1.cell? ⟨w.heap.size + 1, 1, none⟩ = some (.int .i64 u) :=
  ⟨(hb.cell (by simp; omega)).trans (by go_simp), (hb.cell (by simp)).trans (by go_simp), (hb.cell (by simp)).trans (by go_simp)⟩

theorem two_below (w : World) (o1 o2 : Obj) : Below w.heap.size w ((w.alloc o1).alloc o2) := ((Below.refl _ _).alloc (Nat.le_refl _) _).alloc (by simp) _

end Go.Proofs.YtfaaijoneaompaaGreat
