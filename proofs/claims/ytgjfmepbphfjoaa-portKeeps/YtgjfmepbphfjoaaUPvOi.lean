/-
  PortKeeps at whatever arguments.
-/
import Derived.Test.YtgjfmepbphfjoaaUPt
import Derived.Test.YtgjfmepbphfjoaaUPu
import Derived.Test.YtgjfmepbphfjoaaUBa
import Derived.WalkKit
import Derived.ProofKit
import Derived.OpenShut
import Derived.ChangeOld
import Derived.Below
import Derived.Deep.Slices
import Derived.Lib.SmallJoins
namespace Go.Proofs.Ytgjfmepbphfjoaa
open Go.RowKit

theorem portKeeps_any (hO : OpenAnsX) (hP : PassAnsX) (hU : PushAnsX) (hPl : PullAnsX) (hS : ShutAnsX) (hC : PCheckAns) (ia : Option Addr) (ic : Nat) (I : List Int) (ga : Option Addr) (gc : Nat) (GS : List (List Cl)) (w : World) (hIc : I.length ≤ ic) (hIm : ic ≤ 9223372036854775807) (hI : IntsAt w ia I) (hGN : GS.length ≤ 9223372036854775807) (hGB : BigG GS) (hG : GrsC w ga gc GS) :
    Calls Try.prog 4 #[.slice ia I.length ic, .slice ga GS.length gc] w fun e w' => e = .returned (.bool true) ∧ Below w.heap.size w w' := by
  by_cases h : 60 < I.length
  · exact portKeeps_long hO hP hU hPl hS hC ia ic I ga gc GS w h hIc hIm hI hGN hGB hG.2
  · exact portKeeps_short hO hP hU hPl hS hC ia ic I ga gc GS w (by omega) hIc hIm hI hGN hGB hG.2
end Go.Proofs.Ytgjfmepbphfjoaa

namespace Go.Proofs.Ytgjfmepbphfjoaa
open Go.ChangeShapes Go.WideShapes Go.ChangeAt Go.RowKit
set_option linter.unusedVariables false

variable {H : Type} {enc : TypeId × Value → H} {w : World} {base : Nat} {spare : Nat → Bool} {held : Bool}

set_option maxRecDepth 100000 in
theorem cellsIntCO : Try.prog.cellsOf 3 = 1 := by kernel_rfl
set_option maxRecDepth 100000 in
theorem open_kidsCO {fuel : Nat} {cs : List Value} {x : DataW H × List MemPlace} (h : DataW.trod enc Try.prog w base spare held fuel 40 cs = some x) :
    ∃ ka kc, ∃ ks : List Int, cs = [.slice ka ks.length kc] ∧ ks.length ≤ kc ∧ kc ≤ 9223372036854775807 ∧ IntsAt w ka ks := by
  rcases open_ints Try.underlying40 Try.underlying3 cellsIntCO h with ⟨rfl, _⟩ | ⟨a, len, cap, zs, rfl, _, hl, hm, hz, _, hcell, _⟩
  · exact ⟨none, 0, [], rfl, by simp, by omega, fun i hi => absurd hi (Nat.not_lt_zero _)⟩
  · have hlz : len ≤ zs.length := by rw [hz]; split <;> omega
    have htl : (zs.take len).length = len := by rw [List.length_take]; omega
    refine ⟨some a, cap, zs.take len, by rw [htl], by rw [htl]; exact hl, by unfold maxLen at hm; omega, fun i hi => ?_⟩
    rw [htl] at hi
    obtain ⟨b, off, rfl, hc⟩ := ints_at hcell (by omega)
    refine ⟨b, off, rfl, ?_⟩
    rw [hc i (by omega), getD_elem zs 0 (by omega), getD_elem (zs.take len) 0 (by omega), List.getElem_take]

set_option maxRecDepth 100000 in
theorem open_numbersO {r : Reach} {b0 : Nat} {v : Value} {d : DataW H} {p : List MemPlace} (hv : Value.okWide Try.prog w r b0 40 v) (h : DataW.Trod enc Try.prog w base spare held 40 v d p) :
    ∃ a c, ∃ z : List Int, v = .slice a z.length c ∧ z.length ≤ c ∧ c ≤ 9223372036854775807 ∧ IntsAt w a z := by
  obtain ⟨xa, len, cap, rfl⟩ := okWide_slice Try.underlying40 hv
  obtain ⟨fuel, hf⟩ := h
  obtain ⟨ka, kc, ks, e, h1, h2, h3⟩ := open_kidsCO hf
  simp [Value.cells] at e
  obtain ⟨rfl, rfl, rfl⟩ := e
  exact ⟨_, _, ks, rfl, h1, h2, h3⟩
end Go.Proofs.Ytgjfmepbphfjoaa
