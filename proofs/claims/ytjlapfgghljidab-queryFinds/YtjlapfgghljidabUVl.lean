/-
  QueryFinds at whatever arguments.
-/
import Derived.Test.YtjlapfgghljidabUVk
import Derived.Test.YtjlapfgghljidabUWoVhVla
namespace Go.Proofs.Ytjlapfgghljidab
open Go.ChangeShapes Go.WideShapes Go.ChangeAt Go.RowKit

theorem finds_any (G : SoughtOk) (a : Option Addr) (c : Nat) (S : List Nd) (p u : Int) (qa : Option Addr) (qc : Nat) (q : List Tst) (tt tm : Int) (tn : Bool) (w : World) (hN : S.length ≤ 9223372036854775807) (hB : Big S) (hS : NdsAt w a S) (hL : q.length ≤ 9223372036854775807) (hQ : TestsAt w qa q) :
    Calls Try.prog 5 #[.agg #[.slice a S.length c], .agg #[.int .i64 p, .int .i64 u], .slice qa q.length qc, .agg #[.int .i64 tt, .int .i64 tm, .bool tn]] w fun e w' => e = .returned (.bool true) ∧ Below w.heap.size w w' := by
  by_cases hE : tcheckE S [(p, u)] = 0
  · obtain ⟨wf, k, rfl, hk, hu, _⟩ := tcheck_one hE
    by_cases hq : qcheckE q = 0
    · have hlen := qcheck_len hq
      obtain ⟨qb, qo, e, _⟩ := hQ 0 (by omega)
      subst e
      exact finds_ok G a c S k u qb qo qc q tt tm tn w wf hk hu hE hS hQ hq
    · refine finds_err G _ _ _ _ (qcheckE q) hq w (.slice a S.length c) k u tt tm tn rfl rfl rfl (fun W hW => qfind_bad a c S k u _ qa qc q W wf hk hE (hS.below hW) hL (hQ.below hW) rfl hq) (fun W hW => ?_)
      exact Calls.mono (order_ok a c S k S.length u W hN hB (hS.below hW) hE hk (wf.deep_all hk) (by have := order_le wf hk; have := wf.small; omega)) (fun e w' ⟨sa, cap, g1, g2, _⟩ => ⟨_, _, g1, g2⟩)
  · exact finds_err G _ _ _ _ _ hE w (.slice a S.length c) p u tt tm tn rfl rfl rfl (fun W hW => qfind_err a c S p u _ _ W hN hB (hS.below hW) rfl hE) (fun W hW => Calls.mono (order_err a c S p u _ W hN hB (hS.below hW) rfl hE) (fun e w' ⟨g1, g2⟩ => ⟨_, _, g1, g2⟩))
end Go.Proofs.Ytjlapfgghljidab
