/-
  The contract of pathFrom, and what is to be seen of the others.
-/
import Derived.Test.YthlpkdmmkfhleacJZb
namespace Go.Proofs.Ythlpkdmmkfhleac
open Go.RowKit

set_option maxRecDepth 100000 in
set_option maxHeartbeats 2000000 in
theorem pathFrom_any (a : Option Addr) (c : Nat) (S : List Nd) (k : Nat) (w : World) (hN : S.length ≤ 24) (hk : k < S.length) (hS : NdsAt w a S) :
    Calls Try.prog 69 #[.agg #[.slice a S.length c], .int .i64 (k : Int)] w fun e w' => ∃ v, e = .returned v ∧ Below w.heap.size w w' ∧ w'.ownsRow w.heap.size 3 1 v (pathF S k).length ((pathF S k).map (Value.int .i64)) := by
  have hp := fun W => isPlace_any a c S.length (k : Int) W (by omega)
  rw [isPl_nat.2 hk] at hp
  have CL : Hid (∀ (W W1 : World) (bf : Nat), PathI W a S bf 0 [(k : Int)] W1 → Calls Try.prog 95 #[.agg #[.slice a S.length c], .int .i64 (k : Int), .func (.func 96) #[] #[], .func (.func 97) #[] #[.pointer (some ⟨bf, 0, none⟩)]] W1 fun e w' => e = .returned (.tuple #[]) ∧ ∃ i, PathI W a S bf i (pathF S k) w') := fun W W1 bf h => by
    refine (climb_cnt a c S W1 (k : Int) 96 97 #[.pointer (some ⟨bf, 0, none⟩)] rightUnder pathStep (PathI W a S bf) (fun j => W.heap.size ≤ j) [(k : Int)] (by omega)
      (fun i st w1 h => h.2.1.below h.1) (fun i st w1 w2 h hb => h.below hb)
      (enters_of Try.func96 (by kernel_rfl) rfl) (enters_of Try.func97 (by kernel_rfl) rfl)
      (fun x v w1 => rightUnder_any x v w1)
      (fun i st x w1 hi h _ _ => ?_) h).mono ?_
    · refine (pathVisit_any W a S bf i st x w1 (by omega) h).mono ?_
      rintro e w2 ⟨rfl, g1, g2, g3⟩
      exact ⟨rfl, g1, g2, fun j hj => g3 j _ _ hj (by decide) (by decide)⟩
    · rintro e w' ⟨rfl, ⟨i, _, hI⟩, _⟩
      refine ⟨rfl, i, ?_⟩
      rw [if_pos (isPl_nat.2 hk), climb_line, Int.toNat_natCast] at hI
      exact hI
  have HS : Hid (NdsAt w a S) := hS
  obtain ⟨R, hR⟩ : ∃ R, pathF S k = R := ⟨_, rfl⟩
  rw [hR] at CL ⊢
  have PI : Hid (∀ (W W1 : World) (bf : Nat) st, PathI W a S bf 0 st W1 ↔ (Below W.heap.size W W1 ∧ NdsAt W a S ∧ W.heap.size ≤ bf ∧ st.length = 0 + 1 ∧ ∃ v, W1.heap[bf]? = some (.cells #[v] 39 (0, 0)) ∧ W1.ownsRow W.heap.size 3 1 v st.length (st.map (Value.int .i64)))) := fun W W1 bf st => Iff.rfl
  clear hS hR
  generalize hn : S.length = n at *
  clear hn
  go_enter Try.func69, Try.ntmps69
  go_wp2_with (go_at_call 94; refine (hp _).mono ?_; rintro e w1 ⟨rfl, hb1⟩; simp only [World.size_alloc] at hb1; have l0 : w1.cell? ⟨w.heap.size, 0, none⟩ = some (.slice a n c) := (hb1.cell (by simp)).trans (by go_simp); have hB1 : Below w.heap.size w w1 := ((Below.refl _ _).alloc (Nat.le_refl _) _).trans (hb1.mono (by simp)); have hl0 := World.block_lt_of_cell? _ _ l0; have HB1 : Hid _ := hB1; clear hb1 hB1)
  refine Calls.mono (CL.out w1 _ (w1.heap.size + 1) ((PI.out _ _ _ _).2 ⟨((Below.refl _ _).alloc (Nat.le_refl _) _).alloc (by simp) _, HS.out.below HB1.out, by omega, rfl, .slice (some ⟨w1.heap.size, 0, none⟩) 1 1, ?_, ?_⟩)) ?_
  · have := heap_alloc_new (w1.alloc (.cells #[.int .i64 (k : Int)] 3)) (.cells #[.slice (some ⟨w1.heap.size, 0, none⟩) 1 1] 39)
    simpa using this
  · refine ⟨by simp, Or.inr ⟨w1.heap.size, 1, #[.int .i64 (k : Int)], rfl, Nat.le_refl _, ?_, by simp, by unfold maxLen; omega, by simp, by simp⟩⟩
    have h1 := ((Below.refl (w1.heap.size + 1) (w1.alloc (.cells #[.int .i64 (k : Int)] 3))).alloc (by simp) (.cells #[.slice (some ⟨w1.heap.size, 0, none⟩) 1 1] 39)).block w1.heap.size (by omega)
    have h2 := heap_alloc_new w1 (.cells #[.int .i64 (k : Int)] 3)
    rw [h1]
    simpa using h2
  · rintro e w2 ⟨rfl, i, hI⟩
    obtain ⟨hB2, _, _, _, v, hc, hown⟩ := hI
    have cb := box_cell hc
    have HB2 : Hid (Below w.heap.size w w2) := HB1.out.trans (hB2.mono HB1.out.size)
    have HO : Hid (w2.ownsRow w.heap.size 3 1 v R.length (R.map (Value.int .i64))) := ownsRow_base hown HB1.out.size
    clear hB2 hc hown
    go_wp2
    go_ret
    exact ⟨v, rfl, HB2.out, HO.out⟩
end Go.Proofs.Ythlpkdmmkfhleac
