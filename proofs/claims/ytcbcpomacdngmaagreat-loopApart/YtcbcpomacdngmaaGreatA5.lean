/-
  x
-/
import Derived.Test.YtcbcpomacdngmaaGreatA4
import Derived.Laws.AppendOwnNone
import Derived.Deep.RegionHeld3
namespace Go.Proofs.YtcbcpomacdngmaaGreat
set_option maxRecDepth 100000
set_option maxHeartbeats 4000000
set_option linter.unusedVariables false
open Go.RowKit Tryz
theorem Cm{α β:Type}{l:List α}{f g:α->List β}(h:∀ x ∈ l,f x=g x):l.flatMap f=l.flatMap g:=by
 induction l with
 | nil=>rfl
 | cons y l E=>simp only[List.flatMap_cons];rw[h y oac,E (fun x D=>h x (by simp[D]))]
