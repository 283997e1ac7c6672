/-
  The closed fact of the laws on trees.
-/
import Derived.Test.YtcohimljgjlkdacTn
namespace Go.Proofs.Ytcohimljgjlkdac
open Go.RowKit

theorem big_of {S : List Nd} (h : ∀ i, i < S.length → (nd S i).ks.length ≤ 1000) : Big S := fun i hi => Nat.le_trans (h i hi) (by omega)

theorem grown_low {w w1 : World} {g : Nat} (hb : Below (w.heap.size + 1 + 1) ((w.alloc (.cells #[.slice (some ⟨g, 0, none⟩) 6 6] 24)).alloc (.cells #[.int .i64 0, .int .i64 1, .int .i64 1, .int .i64 1, .int .i64 2, .int .i64 1] 65)) w1) :
    w1.cell? ⟨w.heap.size, 0, none⟩ = some (.slice (some ⟨g, 0, none⟩) 6 6) ∧ w1.cell? ⟨w.heap.size + 1, 0, none⟩ = some (.int .i64 0) ∧ w1.cell? ⟨w.heap.size + 1, 1, none⟩ = some (.int .i64 1) ∧ w1.cell? ⟨w.heap.size + 1, 2, none⟩ = some (.int .i64 1) ∧ w1.cell? ⟨w.heap.size + 1, 3, none⟩ = some (.int .i64 1) := by
  refine ⟨?_, ?_, ?_, ?_, ?_⟩
  · exact (hb.cell (by first | (simp; done) | (simp; omega))).trans (by go_simp)
  · exact (hb.cell (by first | (simp; done) | (simp; omega))).trans (by go_simp)
  · exact (hb.cell (by first | (simp; done) | (simp; omega))).trans (by go_simp)
  · exact (hb.cell (by first | (simp; done) | (simp; omega))).trans (by go_simp)
  · exact (hb.cell (by first | (simp; done) | (simp; omega))).trans (by go_simp)

end Go.Proofs.Ytcohimljgjlkdac
