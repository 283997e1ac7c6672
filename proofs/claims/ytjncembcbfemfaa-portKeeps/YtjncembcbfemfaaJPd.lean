/-
  The reference's CheckPorts.
-/
import Derived.Test.YtjncembcbfemfaaJPb
import Derived.Test.YtjncembcbfemfaaJCm
namespace Go.Proofs.Ytjncembcbfemfaa
open Go.RowKit
set_option linter.unusedVariables false

theorem graphs_step {C : List (List Cl)} {j : Nat} (h : j < C.length) : graphsE (C.drop j) = if gcheckE (gr C j) = 0 then graphsE (C.drop (j + 1)) else gcheckE (gr C j) := by
  rw [List.drop_eq_getElem_cons h, graphsE, gr_elem h]
theorem graphs_end (C : List (List Cl)) : graphsE (C.drop C.length) = 0 := by
  rw [List.drop_length]
  rfl
theorem port_big {L : List Pt} {i : Nat} (hB : BigP L) (h : i < L.length) : (pt L i).cm.length ≤ 9223372036854775807 ∧ BigG (pt L i).cm := hB i h

end Go.Proofs.Ytjncembcbfemfaa
