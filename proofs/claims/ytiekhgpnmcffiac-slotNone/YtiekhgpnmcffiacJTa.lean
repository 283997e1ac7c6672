/-
  The contract of CopyNode: a node of new memory.
-/
import Derived.Test.YtiekhgpnmcffiacJSm
namespace Go.Proofs.Ytiekhgpnmcffiac
open Go.RowKit

theorem makeIntsBig (n : Nat) (hn : n ≤ 1000000) (w : World) : (Instr.makeSlice 39 (.int .i64 (n : Int)) (.int .i64 (n : Int))).run Try.prog w = .ok (.slice (some ⟨w.heap.size, 0, none⟩) n n) (w.alloc (.cells (madeCells #[.int .i64 0] n) 3)) :=
  run_make_row' (P := Try.prog) 39 3 (.int .i64 0) 8 Try.underlying39 info3 rfl .i64 .i64 n (by omega) (by omega) w

theorem copy_low {w w1 : World} {u : Bool} {n t m p : Int} {k : Value} {h : Int} {c : Bool} {o3 : Obj} (hb : Below (w.heap.size + 1 + 1) (((w.alloc (.cells #[.bool u, .int .i64 n, .int .i64 t, .int .i64 m, .int .i64 p, k, .int .i64 h, .bool c] 52)).alloc (.cells #[.bool false, .int .i64 0, .int .i64 0, .int .i64 0, .int .i64 0, .slice none 0 0, .int .i64 0, .bool false] 52)).alloc o3) w1) :
    (w1.cell? ⟨w.heap.size, 0, none⟩ = some (.bool u) ∧ w1.cell? ⟨w.heap.size, 1, none⟩ = some (.int .i64 n) ∧ w1.cell? ⟨w.heap.size, 2, none⟩ = some (.int .i64 t) ∧ w1.cell? ⟨w.heap.size, 3, none⟩ = some (.int .i64 m) ∧ w1.cell? ⟨w.heap.size, 4, none⟩ = some (.int .i64 p) ∧ w1.cell? ⟨w.heap.size, 5, none⟩ = some k ∧ w1.cell? ⟨w.heap.size, 6, none⟩ = some (.int .i64 h) ∧ w1.cell? ⟨w.heap.size, 7, none⟩ = some (.bool c)) ∧
    (w1.cell? ⟨w.heap.size + 1, 0, none⟩ = some (.bool false) ∧ w1.cell? ⟨w.heap.size + 1, 1, none⟩ = some (.int .i64 0) ∧ w1.cell? ⟨w.heap.size + 1, 2, none⟩ = some (.int .i64 0) ∧ w1.cell? ⟨w.heap.size + 1, 3, none⟩ = some (.int .i64 0) ∧ w1.cell? ⟨w.heap.size + 1, 4, none⟩ = some (.int .i64 0) ∧ w1.cell? ⟨w.heap.size + 1, 5, none⟩ = some (.slice none 0 0) ∧ w1.cell? ⟨w.heap.size + 1, 6, none⟩ = some (.int .i64 0) ∧ w1.cell? ⟨w.heap.size + 1, 7, none⟩ = some (.bool false)) ∧
    (∀ o, w1.frozen? ⟨w.heap.size, o, none⟩ = false) ∧ (∀ o, w1.frozen? ⟨w.heap.size + 1, o, none⟩ = false) := by
  refine ⟨⟨?_, ?_, ?_, ?_, ?_, ?_, ?_, ?_⟩, ⟨?_, ?_, ?_, ?_, ?_, ?_, ?_, ?_⟩, fun o => ?_, fun o => ?_⟩
  · exact (hb.cell (by simp; omega)).trans (by go_simp)
  · exact (hb.cell (by simp; omega)).trans (by go_simp)
  · exact (hb.cell (by simp; omega)).trans (by go_simp)
  · exact (hb.cell (by simp; omega)).trans (by go_simp)
  · exact (hb.cell (by simp; omega)).trans (by go_simp)
  · exact (hb.cell (by simp; omega)).trans (by go_simp)
  · exact (hb.cell (by simp; omega)).trans (by go_simp)
  · exact (hb.cell (by simp; omega)).trans (by go_simp)
  · exact (hb.cell (by simp)).trans (by go_simp)
  · exact (hb.cell (by simp)).trans (by go_simp)
  · exact (hb.cell (by simp)).trans (by go_simp)
  · exact (hb.cell (by simp)).trans (by go_simp)
  · exact (hb.cell (by simp)).trans (by go_simp)
  · exact (hb.cell (by simp)).trans (by go_simp)
  · exact (hb.cell (by simp)).trans (by go_simp)
  · exact (hb.cell (by simp)).trans (by go_simp)
  · exact (hb.frozen (by simp; omega)).trans (by go_simp)
  · exact (hb.frozen (by simp)).trans (by go_simp)

set_option maxHeartbeats 1000000 in
theorem copyNode_any (x : Nd) (ka : Option Addr) (kc : Nat) (w : World) (hk : x.ks.length ≤ 1000000) (hks : IntsAt w ka x.ks) :
    Calls Try.prog 73 #[.agg #[.bool x.u, .int .i64 x.n, .int .i64 x.t, .int .i64 x.m, .int .i64 x.p, .slice ka x.ks.length kc, .int .i64 x.h, .bool x.c]] w fun e w' => ∃ g, e = .returned (.agg #[.bool x.u, .int .i64 x.n, .int .i64 x.t, .int .i64 x.m, .int .i64 x.p, .slice (some ⟨g, 0, none⟩) x.ks.length x.ks.length, .int .i64 x.h, .bool x.c]) ∧ Below w.heap.size w w' ∧ w.heap.size ≤ g ∧ w'.rowIs g 3 x.ks.length (fun j => .int .i64 (x.ks.getD j 0)) := by
  have hmk := makeIntsBig x.ks.length hk
  have hsz : (Try.prog.info? 3).map (·.size) = some 1 := by kernel_rfl
  obtain ⟨u, n, t, m, p, ks, h, c⟩ := x
  dsimp only at *
  have KL : Hid (ks.length = ks.length) := rfl
  have HKS : Hid (∀ o1 o2 o3, IntsAt (((w.alloc o1).alloc o2).alloc o3) ka ks) := fun o1 o2 o3 => hks.below ((((Below.refl _ _).alloc (Nat.le_refl _) _).alloc (by simp) _).alloc (by simp; omega) _)
  have HG : Hid (∀ o1 o2, (((w.alloc o1).alloc o2).alloc (.cells (madeCells #[.int .i64 0] ks.length) 3)).heap[w.heap.size + 1 + 1]? = some (.cells (madeCells #[.int .i64 0] ks.length).toList.toArray 3 (0, 0))) := fun o1 o2 => by
    have := heap_alloc_new ((w.alloc o1).alloc o2) (.cells (madeCells #[.int .i64 0] ks.length) 3)
    simpa using this
  have HP : Hid (∀ o1 o2 o3, 0 < (ks.map (Value.int .i64)).length → some (⟨w.heap.size + 1 + 1, 0, none⟩ : Addr) = some ⟨w.heap.size + 1 + 1, 0, none⟩ ∧ ∃ ad, ka = some ad ∧ ∀ j v, (ks.map (Value.int .i64))[j]? = some v → (((w.alloc o1).alloc o2).alloc o3).cell? (ad.add j) = some v) := fun o1 o2 o3 h0 => by
    refine ⟨rfl, ?_⟩
    obtain ⟨b, o, rfl, _⟩ := HKS.out o1 o2 o3 0 (by simpa using h0)
    refine ⟨_, rfl, fun j v hj => ?_⟩
    obtain ⟨hl, hv⟩ := List.getElem?_eq_some_iff.1 hj
    obtain ⟨b', o', e', hc⟩ := HKS.out o1 o2 o3 j (by simpa using hl)
    cases e'
    rw [List.getElem_map] at hv
    rw [getD_elem ks 0 (by simpa using hl), hv] at hc
    rw [Addr.add_lit]; exact hc
  have HSP : Hid (splice (madeCells #[.int .i64 0] ks.length).toList 0 (ks.map (Value.int .i64)) = ks.map (Value.int .i64)) := by
    show splice _ _ _ = _
    simp [splice, size_madeCells]
  clear hks
  go_enter Try.func73, Try.ntmps73
  go_wp2_with (refine wpList_copy_splice rfl (.tmp 8) (.tmp 10) 39 39 rfl 3 Try.underlying39 hsz (some ⟨w.heap.size + 1 + 1, 0, none⟩) ka ks.length ks.length ks.length kc rfl rfl (w.heap.size + 1 + 1) 0 (madeCells #[.int .i64 0] ks.length).toList 3 (HG.out _ _) (ks.map (Value.int .i64)) (by simp) (HP.out _ _ _) (by simp [size_madeCells]) (by intro v hv; simp at hv; obtain ⟨y, _, rfl⟩ := hv; rfl) (w.heap.size + 1 + 1) _ (Below.refl _ _) (Nat.le_refl _) ?_)
  intro w3 hw3 hb3
  obtain ⟨⟨l0, l1, l2, l3, l4, l5, l6, l7⟩, ⟨z0, z1, z2, z3, z4, z5, z6, z7⟩, f1, f2⟩ := copy_low hb3
  have hsz3 := hb3.size
  have HW3 : Hid (w3.rowIs (w.heap.size + 1 + 1) 3 ks.length (fun j => .int .i64 (ks.getD j 0))) := by
    refine ⟨_, hw3.out, ?_, fun i hi => ?_⟩
    · rw [HSP.out]; simp
    · rw [HSP.out]
      simp [hi]
  have HB3 : Hid (Below w.heap.size w w3) := ((((Below.refl _ _).alloc (Nat.le_refl _) _).alloc (by simp) _).alloc (by simp; omega) _).trans (hb3.mono (by omega))
  clear hb3 hw3
  go_wp2
  refine bodyPost_ret (v := .agg #[.bool u, .int .i64 n, .int .i64 t, .int .i64 m, .int .i64 p, .slice (some ⟨w.heap.size + 1 + 1, 0, none⟩) ks.length ks.length, .int .i64 h, .bool c]) (by simp [results, Try.results73, go_sem, z0, z1, z2, z3, z4, z5, z6, z7]) rfl ⟨w.heap.size + 1 + 1, rfl, ?_, by omega, ?_⟩
  · exact ((((((((HB3.out.setCell (by simp) _).setCell (by simp) _).setCell (by simp) _).setCell (by simp) _).setCell (by simp) _).setCell (by simp) _).setCell (by simp) _).setCell (by simp) _).setCell (by simp) _
  · exact ((((((((HW3.out.setOther (by simp; omega) _).setOther (by simp) _).setOther (by simp) _).setOther (by simp) _).setOther (by simp) _).setOther (by simp) _).setOther (by simp) _).setOther (by simp) _).setOther (by simp) _
end Go.Proofs.Ytiekhgpnmcffiac
