/-
  The family of the laws' closed facts, reckoned.
-/
import Derived.Test.YtiekhgpnmcffiacJTl
import Derived.Test.YtiekhgpnmcffiacJSo
namespace Go.Proofs.Ytiekhgpnmcffiac
open Go.RowKit

def SK : Nat → List Nd
  | 0 => List.replicate 6 unusedNd
  | k + 1 => (SK k).set k (madeNd (nd (SK k) k) k)

def S4 : List Nd := enterS (SK 3) 0 1 0
def S5 : List Nd := enterS S4 0 2 0

theorem sk_len : ∀ k, (SK k).length = 6
  | 0 => rfl
  | k + 1 => by simp only [SK, List.length_set]; exact sk_len k

theorem sk_facts : ∀ k, k < 3 → (freeB (nd (SK k) k) = true ∧ (nd (SK k) k).n = 0 ∧ (∀ i, i < k → freeB (nd (SK k) i) = false) ∧ (∀ i, i < 6 → (nd (SK k) i).ks.length ≤ 1000) ∧ checkE (SK k) = 0) := by
  intro k hk
  match k, hk with
  | 0, _ => decide
  | 1, _ => decide
  | 2, _ => decide

theorem sk3_check : tcheckE (SK 3) [(((0 : Nat) : Int), 1), (((1 : Nat) : Int), 1)] = 0 := by decide
theorem s4_check : tcheckE S4 [(((0 : Nat) : Int), 1), (((2 : Nat) : Int), 1), (((1 : Nat) : Int), 1)] = 0 := by decide
theorem s5_check : tcheckE S5 [(((0 : Nat) : Int), 1)] = 0 := by decide
theorem s5_check2 : tcheckE S5 [(((1 : Nat) : Int), 1), (((0 : Nat) : Int), 1)] = 0 := by decide
theorem s5_order : orderF S5 6 0 = [0, 2, 1] := by decide
theorem s3_fit : fitsB (SK 3) 1 0 = true := by decide
theorem s4_fit : fitsB S4 2 0 = true := by decide
theorem s5_fit : fitsB S5 0 1 = false := by decide
theorem s3_p : (nd (SK 3) 1).p = -1 := by decide
theorem s4_p : (nd S4 2).p = -1 := by decide
theorem s4_q : (nd S4 1).p = ((0 : Nat) : Int) := by decide
theorem s4_at : idx (nd S4 0).ks ((1 : Nat) : Int) = ((0 : Nat) : Int) := by decide
theorem s3_at : (nd (SK 3) 0).ks.length = 0 := by decide
theorem s4_len : S4.length = 6 := by decide
theorem s5_len : S5.length = 6 := by decide
theorem sk3_ks : ∀ i, i < (SK 3).length → (nd (SK 3) i).ks.length ≤ 1000 := by decide
theorem s4_ks : ∀ i, i < S4.length → (nd S4 i).ks.length ≤ 1000 := by decide
theorem s5_ks : ∀ i, i < S5.length → (nd S5 i).ks.length ≤ 1000 := by decide
end Go.Proofs.Ytiekhgpnmcffiac
