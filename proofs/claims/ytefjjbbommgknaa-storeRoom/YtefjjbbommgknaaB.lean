/-
  Contracts of copyNode (of a node without children) and of the search for the first place that Make can take, over nodes in a row of cells.
-/
import Derived.Test.YtefjjbbommgknaaA
import Derived.Deep.OwnRows
namespace Go.Proofs.Ytefjjbbommgknaa
open Go.RowKit

theorem info3 : (Try.prog.info? 3).map (fun i => (i.zero, i.size, i.bytes)) = some (some (.int .i64 0), 1, 8) := by kernel_rfl
theorem info39 : (Try.prog.info? 39).map (fun i => (i.zero, i.size, i.bytes)) = some (some (.agg #[.bool false, .int .i64 0, .int .i64 0, .int .i64 0, .int .i64 0, .slice none 0 0, .int .i64 0, .bool false]), 8, 80) := by kernel_rfl

/-- A node's eight fields; of its Kids no element. -/
structure Nd where
  u : Bool
  n : Int
  t : Int
  m : Int
  p : Int
  h : Int
  c : Bool

def NdAt (w : World) (b o : Nat) (x : Nd) : Prop :=
  w.cell? ⟨b, o, none⟩ = some (.bool x.u) ∧ w.cell? ⟨b, o + 1, none⟩ = some (.int .i64 x.n) ∧ w.cell? ⟨b, o + 2, none⟩ = some (.int .i64 x.t) ∧ w.cell? ⟨b, o + 3, none⟩ = some (.int .i64 x.m) ∧
  w.cell? ⟨b, o + 4, none⟩ = some (.int .i64 x.p) ∧ (∃ ka kc, w.cell? ⟨b, o + 5, none⟩ = some (.slice ka 0 kc)) ∧ w.cell? ⟨b, o + 6, none⟩ = some (.int .i64 x.h) ∧ w.cell? ⟨b, o + 7, none⟩ = some (.bool x.c)

theorem make0 (w : World) : (Instr.makeSlice 24 (.int .i64 0) (.int .i64 0)).run Try.prog w = .ok (.slice (some ⟨w.heap.size, 0, none⟩) 0 0) (w.alloc (.cells #[] 3)) := by
  have h := run_make_row' (P := Try.prog) 24 3 (.int .i64 0) 8 Try.underlying24 info3 rfl .i64 .i64 0 (by omega) (by omega) w
  simpa [madeCells, Array.range_zero'] using h

set_option maxHeartbeats 400000 in
theorem copyNode_none (v0 : Bool) (n v2 v3 v4 v6 : Int) (ka : Option Addr) (kc : Nat) (v7 : Bool) (w : World) :
    Calls Try.prog 46 #[.agg #[.bool v0, .int .i64 n, .int .i64 v2, .int .i64 v3, .int .i64 v4, .slice ka 0 kc, .int .i64 v6, .bool v7]] w fun e w' =>
      e = .returned (.agg #[.bool v0, .int .i64 n, .int .i64 v2, .int .i64 v3, .int .i64 v4, .slice (some ⟨w.heap.size + 2, 0, none⟩) 0 0, .int .i64 v6, .bool v7]) ∧ Below w.heap.size w w' := by
  have hmk := make0
  have hsz : (Try.prog.info? 3).map (·.size) = some 1 := by kernel_rfl
  go_enter Try.func46, Try.ntmps46
  go_wp2_with (refine wpList_copy_nothing rfl (.tmp 8) (.tmp 10) 24 24 rfl 3 Try.underlying24 hsz _ _ _ _ _ _ rfl rfl rfl ?_)
  refine bodyPost_ret (v := .agg #[.bool v0, .int .i64 n, .int .i64 v2, .int .i64 v3, .int .i64 v4, .slice (some ⟨w.heap.size + 2, 0, none⟩) 0 0, .int .i64 v6, .bool v7]) (by simp [results, Try.results46, go_sem]) rfl ⟨rfl, ?_⟩
  exact (((Below.refl _ _).alloc (Nat.le_refl _) _).alloc (by simp) _).alloc (by simp; omega) _

set_option maxHeartbeats 400000 in
theorem firstFree_any (b n c : Nat) (f : Nat → Nd) (w : World) (hn : n ≤ 24) (hbw : b < w.heap.size) (hf : ∀ i, i < n → NdAt w b (i * 8) (f i)) :
    Calls Try.prog 28 #[.slice (some ⟨b, 0, none⟩) n c, .func (.func 29) #[] #[]] w fun e w' => ∃ r : Int, e = .returned (.int .i64 r) ∧ Below w.heap.size w w' ∧
      ((r = -1 ∧ ∀ i, i < n → ((f i).u = true ∨ 1000000 ≤ (f i).n)) ∨ (∃ k : Nat, k < n ∧ r = k ∧ (f k).u = false ∧ (f k).n < 1000000 ∧ ∀ i, i < k → ((f i).u = true ∨ 1000000 ≤ (f i).n))) := by
  go_enter Try.func28, Try.ntmps28
  go_wp2
  go_loopg [8] n (fun g s8 wr => ∃ k : Nat, k ≤ n ∧ n - k ≤ g ∧ s8 = .int .i64 k ∧ Below w.heap.size w wr ∧ ∀ i, i < k → ((f i).u = true ∨ 1000000 ≤ (f i).n))
  case atStart => exact ⟨0, by omega, by omega, rfl, Below.refl _ _, fun i hi => by omega⟩
  case round =>
    obtain ⟨k, hk, hg, rfl, hb, hall⟩ := hrel
    by_cases hlt : k < n
    · obtain ⟨c0, c1, c2, c3, c4, ⟨ka, kc, c5⟩, c6, c7⟩ := hf k hlt
      rw [← hb.cell (by exact hbw)] at c0 c1 c2 c3 c4 c5 c6 c7
      have A : Hid (∀ i, i < k → ((f i).u = true ∨ 1000000 ≤ (f i).n)) := hall
      clear hall hf
      go_wp2_with (go_at_call 29; refine (free_place _ _ _ _ _ _ _ _ _).mono ?_; rintro e w' ⟨rfl, rfl⟩)
      · rename_i hh
        go_ret
        refine ⟨k, rfl, hb.alloc hb.size _, Or.inr ⟨k, hlt, rfl, ?_, hh.2, A.out⟩⟩
        simpa using hh.1
      · rename_i hh
        go_roundg (n - (k + 1))
        case measure => omega
        case rel =>
          refine ⟨k + 1, by omega, by omega, by go_num, hb.alloc hb.size _, fun i hi => ?_⟩
          by_cases e : i = k
          · subst e
            cases hu : (f i).u
            · right
              simp [hu] at hh
              omega
            · exact Or.inl rfl
          · exact A.out i (by omega)
    · have : k = n := by omega
      subst this
      clear hf
      have A : Hid (∀ i, i < k → ((f i).u = true ∨ 1000000 ≤ (f i).n)) := hall
      clear hall
      go_wp2
      go_ret
      exact ⟨-1, rfl, hb, Or.inl ⟨rfl, A.out⟩⟩
end Go.Proofs.Ytefjjbbommgknaa
