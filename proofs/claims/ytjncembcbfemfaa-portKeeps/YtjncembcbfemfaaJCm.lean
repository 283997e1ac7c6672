/-
  The reference's CheckGraph.
-/
import Derived.Test.YtjncembcbfemfaaJCb
namespace Go.Proofs.Ytjncembcbfemfaa
open Go.RowKit

end Go.Proofs.Ytjncembcbfemfaa
