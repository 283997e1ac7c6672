/-
  PortKeeps at whatever arguments.
-/
import Derived.Test.YtjncembcbfemfaaJPt
import Derived.Test.YtjncembcbfemfaaJPu
namespace Go.Proofs.Ytjncembcbfemfaa
open Go.RowKit

theorem portKeeps_any (hO : OpenAnsX) (hP : PassAnsX) (hU : PushAnsX) (hPl : PullAnsX) (hS : ShutAnsX) (hC : PCheckAns) (ia : Option Addr) (ic : Nat) (I : List Int) (ga : Option Addr) (gc : Nat) (GS : List (List Cl)) (w : World) (hIc : I.length ≤ ic) (hIm : ic ≤ 9223372036854775807) (hI : IntsAt w ia I) (hGN : GS.length ≤ 9223372036854775807) (hGB : BigG GS) (hG : GrsC w ga gc GS) :
    Calls Try.prog 3 #[.slice ia I.length ic, .slice ga GS.length gc] w fun e w' => e = .returned (.bool true) ∧ Below w.heap.size w w' := by
  by_cases h : 60 < I.length
  · exact portKeeps_long hO hP hU hPl hS hC ia ic I ga gc GS w h hIc hIm hI hGN hGB hG.2
  · exact portKeeps_short hO hP hU hPl hS hC ia ic I ga gc GS w (by omega) hIc hIm hI hGN hGB hG.2
end Go.Proofs.Ytjncembcbfemfaa
