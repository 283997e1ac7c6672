/-
  EventTold at whatever arguments: the cases put together.
-/
import Derived.Test.YtebhlcjljdgnkaaUHx
namespace Go.Proofs.Ytebhlcjljdgnkaa
open Go.RowKit

theorem hrs_noneHy {w : World} {la : Option Addr} {L : List Hr} (h : HrsAt w la L) : la = none → L.length = 0 := fun e => by
  by_cases h0 : 0 < L.length
  · obtain ⟨b, o, e2, _⟩ := h 0 h0
    rw [e] at e2
    cases e2
  · omega

theorem eventTold_any (a : Option Addr) (c : Nat) (S : List Nd) (la : Option Addr) (lc : Nat) (L : List Hr) (p u : Int) (w : World) (hN : S.length ≤ 9223372036854775807) (hB : Big S) (hS : NdsAt w a S) (hL : L.length ≤ 9223372036854775807) (hBL : BigH L) (hH : HrsAt w la L) :
    Calls Try.prog 3 #[.agg #[.slice a S.length c], .slice la L.length lc, .agg #[.int .i64 p, .int .i64 u]] w fun e w' => e = .returned (.bool true) ∧ Below w.heap.size w w' := by
  by_cases h1 : findE S p u = 0
  · obtain ⟨wf, k, rfl, hk, _⟩ := find_used h1
    by_cases h2 : hcheckE L S.length = 0
    · exact told_ok a c S la lc L k u w wf hS hk h1 hBL hH (hrs_noneHy hH) h2
    · exact told_bad a c S.length S la lc L.length L k u _ w hS hH h2 (fun W hW hHW => disp_err2 a c S la lc L k u _ W wf hW hk h1 hL hBL hHW rfl h2)
  · exact told_bad a c S.length S la lc L.length L p u _ w hS hH h1 (fun W hW _ => disp_err1 a c S la lc L p u _ W hN hB hW rfl h1)
end Go.Proofs.Ytebhlcjljdgnkaa
