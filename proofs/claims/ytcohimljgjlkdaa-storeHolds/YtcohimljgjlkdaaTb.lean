/-
  A store in memory of the call's own, and the contract of Copy.
-/
import Derived.Test.YtcohimljgjlkdaaTa
namespace Go.Proofs.Ytcohimljgjlkdaa
open Go.RowKit

/-- A node in a row F, its children in a row of their own. -/
def NdR (w : World) (F : Nat → Value) (o : Nat) (x : Nd) (kb kc : Nat) : Prop :=
  F o = .bool x.u ∧ F (o + 1) = .int .i64 x.n ∧ F (o + 2) = .int .i64 x.t ∧ F (o + 3) = .int .i64 x.m ∧ F (o + 4) = .int .i64 x.p ∧ F (o + 5) = .slice (some ⟨kb, 0, none⟩) x.ks.length kc ∧ F (o + 6) = .int .i64 x.h ∧ F (o + 7) = .bool x.c ∧
  x.ks.length ≤ kc ∧ kc ≤ 1000 ∧ ∃ G, w.rowIs kb 3 kc G ∧ ∀ j, j < x.ks.length → G j = .int .i64 (x.ks.getD j 0)

/-- A store in a row of the call's own; each list of children in a row of its own. -/
def Own (w : World) (B g : Nat) (S : List Nd) (kb kc : Nat → Nat) (k : Nat) : Prop :=
  B ≤ g ∧ ∃ F, w.rowIs g 38 (S.length * 8) F ∧ (∀ i, i < k → NdR w F (i * 8) (nd S i) (kb i) (kc i)) ∧ (∀ i, i < k → g < kb i) ∧ (∀ i, i < k → ∀ j, j < k → kb i = kb j → i = j)

theorem NdR.below {w w' : World} {F : Nat → Value} {o : Nat} {x : Nd} {kb kc B : Nat} (h : NdR w F o x kb kc) (hb : Below B w w') (hB : kb < B) : NdR w' F o x kb kc := by
  obtain ⟨e0, e1, e2, e3, e4, e5, e6, e7, e8, e8b, G, hG, e9⟩ := h
  exact ⟨e0, e1, e2, e3, e4, e5, e6, e7, e8, e8b, G, hG.of_block (hb.block kb hB), e9⟩

theorem NdR.row {w : World} {F : Nat → Value} {o : Nat} {x : Nd} {kb kc : Nat} (h : NdR w F o x kb kc) : kb < w.heap.size := by
  obtain ⟨_, _, _, _, _, _, _, _, _, _, G, hG, _⟩ := h
  exact hG.lt

theorem Own.nds {w : World} {B g : Nat} {S : List Nd} {kb kc : Nat → Nat} (h : Own w B g S kb kc S.length) : NdsAt w (some ⟨g, 0, none⟩) S := fun i hi => by
  obtain ⟨_, F, hF, hN, _, _⟩ := h
  obtain ⟨e0, e1, e2, e3, e4, e5, e6, e7, e8, e8b, G, hG, e9⟩ := hN i hi
  refine ⟨g, 0, rfl, ?_⟩
  rw [Nat.zero_add]
  refine ⟨?_, ?_, ?_, ?_, ?_, ⟨some ⟨kb i, 0, none⟩, kc i, ?_, fun j hj => ⟨kb i, 0, rfl, ?_⟩⟩, ?_, ?_⟩
  · rw [hF.cell (by omega), e0]
  · rw [hF.cell (by omega), e1]
  · rw [hF.cell (by omega), e2]
  · rw [hF.cell (by omega), e3]
  · rw [hF.cell (by omega), e4]
  · rw [hF.cell (by omega), e5]
  · rw [Nat.zero_add, hG.cell (by omega), e9 j hj]
  · rw [hF.cell (by omega), e6]
  · rw [hF.cell (by omega), e7]

def put8 (F : Nat → Value) (o : Nat) (v0 v1 v2 v3 v4 v5 v6 v7 : Value) : Nat → Value := fun j =>
  if j = o + 7 then v7 else if j = o + 6 then v6 else if j = o + 5 then v5 else if j = o + 4 then v4 else if j = o + 3 then v3 else if j = o + 2 then v2 else if j = o + 1 then v1 else if j = o then v0 else F j

theorem row_set8 {w : World} {g t n : Nat} {F : Nat → Value} (h : w.rowIs g t n F) (o : Nat) (v0 v1 v2 v3 v4 v5 v6 v7 : Value) :
    ((((((((w.setCell ⟨g, o, none⟩ v0).setCell ⟨g, o + 1, none⟩ v1).setCell ⟨g, o + 2, none⟩ v2).setCell ⟨g, o + 3, none⟩ v3).setCell ⟨g, o + 4, none⟩ v4).setCell ⟨g, o + 5, none⟩ v5).setCell ⟨g, o + 6, none⟩ v6).setCell ⟨g, o + 7, none⟩ v7).rowIs g t n (put8 F o v0 v1 v2 v3 v4 v5 v6 v7) :=
  (((((((h.set _ _).set _ _).set _ _).set _ _).set _ _).set _ _).set _ _).set _ _

theorem put8_other {F : Nat → Value} {o j : Nat} {v0 v1 v2 v3 v4 v5 v6 v7 : Value} (h : j < o ∨ o + 8 ≤ j) : put8 F o v0 v1 v2 v3 v4 v5 v6 v7 j = F j := by
  unfold put8
  rw [if_neg (by omega), if_neg (by omega), if_neg (by omega), if_neg (by omega), if_neg (by omega), if_neg (by omega), if_neg (by omega), if_neg (by omega)]

theorem NdR.put8_other {w : World} {F : Nat → Value} {o o' : Nat} {x : Nd} {kb kc : Nat} {v0 v1 v2 v3 v4 v5 v6 v7 : Value} (h : NdR w F o x kb kc) (ho : o + 8 ≤ o' ∨ o' + 8 ≤ o) : NdR w (put8 F o' v0 v1 v2 v3 v4 v5 v6 v7) o x kb kc := by
  obtain ⟨e0, e1, e2, e3, e4, e5, e6, e7, e8, e8b, G, hG, e9⟩ := h
  refine ⟨?_, ?_, ?_, ?_, ?_, ?_, ?_, ?_, e8, e8b, G, hG, e9⟩
  all_goals
    rw [Ytcohimljgjlkdaa.put8_other (by omega)]
    assumption

theorem NdR.put8_here {w : World} {F : Nat → Value} {o : Nat} {x : Nd} {kb kc : Nat} {G : Nat → Value} (hG : w.rowIs kb 3 kc G) (hl : x.ks.length ≤ kc) (hl2 : kc ≤ 1000) (hg : ∀ j, j < x.ks.length → G j = .int .i64 (x.ks.getD j 0)) :
    NdR w (put8 F o (.bool x.u) (.int .i64 x.n) (.int .i64 x.t) (.int .i64 x.m) (.int .i64 x.p) (.slice (some ⟨kb, 0, none⟩) x.ks.length kc) (.int .i64 x.h) (.bool x.c)) o x kb kc := by
  refine ⟨?_, ?_, ?_, ?_, ?_, ?_, ?_, ?_, hl, hl2, G, hG, hg⟩
  all_goals unfold put8
  · rw [if_neg (by omega), if_neg (by omega), if_neg (by omega), if_neg (by omega), if_neg (by omega), if_neg (by omega), if_neg (by omega), if_pos rfl]
  · rw [if_neg (by omega), if_neg (by omega), if_neg (by omega), if_neg (by omega), if_neg (by omega), if_neg (by omega), if_pos rfl]
  · rw [if_neg (by omega), if_neg (by omega), if_neg (by omega), if_neg (by omega), if_neg (by omega), if_pos rfl]
  · rw [if_neg (by omega), if_neg (by omega), if_neg (by omega), if_neg (by omega), if_pos rfl]
  · rw [if_neg (by omega), if_neg (by omega), if_neg (by omega), if_pos rfl]
  · rw [if_neg (by omega), if_neg (by omega), if_pos rfl]
  · rw [if_neg (by omega), if_pos rfl]
  · rw [if_pos rfl]

def zeroVs : Array Value := #[.bool false, .int .i64 0, .int .i64 0, .int .i64 0, .int .i64 0, .slice none 0 0, .int .i64 0, .bool false]
theorem info38 : (Try.prog.info? 38).map (fun i => (i.zero, i.size, i.bytes)) = some (some (.agg #[.bool false, .int .i64 0, .int .i64 0, .int .i64 0, .int .i64 0, .slice none 0 0, .int .i64 0, .bool false]), 8, 80) := by kernel_rfl

theorem makeNodes (n : Nat) (hn : n ≤ 24) (w : World) : (Instr.makeSlice 27 (.int .i64 (n : Int)) (.int .i64 (n : Int))).run Try.prog w = .ok (.slice (some ⟨w.heap.size, 0, none⟩) n n) (w.alloc (.cells (madeCells zeroVs (n * 8)) 38)) := by
  obtain ⟨i, hi, hz0, hz1, hz2⟩ := info_parts info38
  have h := run_make (P := Try.prog) w 27 38 i _ Try.underlying27 hi hz0 .i64 .i64 n n (by omega) (by omega) (by rw [hz2]; omega) (by omega)
  rw [hz1] at h
  simp only [Int.toNat_natCast] at h
  exact h

theorem row_madeNodes (w : World) (n : Nat) : (w.alloc (.cells (madeCells zeroVs (n * 8)) 38)).rowIs w.heap.size 38 (n * 8) (fun j => zeroVs[j % 8]!) := by
  have h := World.rowIs_alloc w (madeCells zeroVs (n * 8)) 38 (fun j => zeroVs[j % 8]!) (fun i hi => by rw [size_madeCells] at hi; simp [madeCells, hi, zeroVs])
  rw [size_madeCells] at h
  exact h
end Go.Proofs.Ytcohimljgjlkdaa
