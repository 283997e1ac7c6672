/-
  copyKids: numbers in new memory.
-/
import Derived.Test.YtmojfomjncmikaaJBa
namespace Go.Proofs.Ytmojfomjncmikaa
open Go.RowKit

theorem infoK : (Try.prog.info? 3).map (fun i => (i.zero, i.size, i.bytes)) = some (some (.int .i64 0), 1, 8) := by kernel_rfl
theorem makeIntsK (n : Nat) (hn : n ≤ 1000000) (w : World) : (Instr.makeSlice 53 (.int .i64 (n : Int)) (.int .i64 (n : Int))).run Try.prog w = .ok (.slice (some ⟨w.heap.size, 0, none⟩) n n) (w.alloc (.cells (madeCells #[.int .i64 0] n) 3)) :=
  run_make_row' (P := Try.prog) 53 3 (.int .i64 0) 8 Try.underlying53 infoK rfl .i64 .i64 n (by omega) (by omega) w
theorem ints_row {w : World} {g t : Nat} {ks : List Int} (h : w.rowIs g t ks.length (fun j => .int .i64 (ks.getD j 0))) : IntsAt w (some ⟨g, 0, none⟩) ks := fun i hi => ⟨g, 0, rfl, by rw [Nat.zero_add]; exact h.cell hi⟩

set_option maxHeartbeats 1000000 in
theorem copyKids_any (ka : Option Addr) (kc : Nat) (ks : List Int) (w : World) (hk : ks.length ≤ 1000000) (hks : IntsAt w ka ks) :
    Calls Try.prog 57 #[.slice ka ks.length kc] w fun e w' => e = .returned (.slice (some ⟨w.heap.size, 0, none⟩) ks.length ks.length) ∧ Below w.heap.size w w' ∧ w'.rowIs w.heap.size 3 ks.length (fun j => .int .i64 (ks.getD j 0)) := by
  have hmk := makeIntsK ks.length hk
  have hsz : (Try.prog.info? 3).map (·.size) = some 1 := by kernel_rfl
  have HKS : Hid (∀ o1, IntsAt (w.alloc o1) ka ks) := fun o1 => hks.below (one_belowS _ _)
  have HG : Hid ((w.alloc (.cells (madeCells #[.int .i64 0] ks.length) 3)).heap[w.heap.size]? = some (.cells (madeCells #[.int .i64 0] ks.length).toList.toArray 3 (0, 0))) := by
    have := heap_alloc_new w (.cells (madeCells #[.int .i64 0] ks.length) 3)
    show _ = _
    simpa using this
  have HP : Hid (∀ o1, 0 < (ks.map (Value.int .i64)).length → some (⟨w.heap.size, 0, none⟩ : Addr) = some ⟨w.heap.size, 0, none⟩ ∧ ∃ ad, ka = some ad ∧ ∀ j v, (ks.map (Value.int .i64))[j]? = some v → (w.alloc o1).cell? (ad.add j) = some v) := fun o1 h0 => by
    refine ⟨rfl, ?_⟩
    obtain ⟨b, o, rfl, _⟩ := HKS.out o1 0 (by simpa using h0)
    refine ⟨_, rfl, fun j v hj => ?_⟩
    obtain ⟨hl, hv⟩ := List.getElem?_eq_some_iff.1 hj
    obtain ⟨b', o', e', hc⟩ := HKS.out o1 j (by simpa using hl)
    cases e'
    rw [List.getElem_map] at hv
    rw [getD_elem ks 0 (by simpa using hl), hv] at hc
    rw [Addr.add_lit]; exact hc
  have HSP : Hid (splice (madeCells #[.int .i64 0] ks.length).toList 0 (ks.map (Value.int .i64)) = ks.map (Value.int .i64)) := by
    show splice _ _ _ = _
    simp [splice, size_madeCells]
  clear hks
  go_enter Try.func57, Try.ntmps57
  go_wp2_with (refine wpList_copy_splice rfl (.tmp 7) (.tmp 8) 53 53 rfl 3 Try.underlying53 hsz (some ⟨w.heap.size, 0, none⟩) ka ks.length ks.length ks.length kc rfl rfl w.heap.size 0 (madeCells #[.int .i64 0] ks.length).toList 3 HG.out (ks.map (Value.int .i64)) (by simp) (HP.out _) (by simp [size_madeCells]) (by intro v hv; simp at hv; obtain ⟨y, _, rfl⟩ := hv; rfl) w.heap.size _ (Below.refl _ _) (Nat.le_refl _) ?_)
  intro w3 hw3 hb3
  have HW3 : Hid (w3.rowIs w.heap.size 3 ks.length (fun j => .int .i64 (ks.getD j 0))) := by
    refine ⟨_, hw3.out, ?_, fun i hi => ?_⟩
    · rw [HSP.out]; simp
    · rw [HSP.out]
      simp [hi]
  have HB3 : Hid (Below w.heap.size w w3) := (one_belowS _ _).trans hb3
  clear hb3 hw3
  go_wp2
  go_ret
  exact ⟨rfl, HB3.out, HW3.out⟩
end Go.Proofs.Ytmojfomjncmikaa
