/-
  What stays so, whatever becomes of some blocks.
-/
import Derived.Test.YtgjfmepbphfjoaaUPx
import Derived.Test.YtgjfmepbphfjoaaUCw
import Derived.Test.YtgjfmepbphfjoaaUPg
import Derived.Deep.RegionHeld3
import Derived.Test.YtgjfmepbphfjoaaUMw
namespace Go.Proofs.Ytgjfmepbphfjoaa
open Go.RowKit
set_option linter.unusedVariables false

end Go.Proofs.Ytgjfmepbphfjoaa

namespace Go.Proofs.Ytgjfmepbphfjoaa
open Go.RowKit Go.ChangeShapes Go.WideShapes
set_option linter.unusedVariables false

end Go.Proofs.Ytgjfmepbphfjoaa

namespace Go.Proofs.Ytgjfmepbphfjoaa
open Go.RowKit Go.ChangeShapes Go.WideShapes
set_option linter.unusedVariables false

theorem run_copy_noneW {P : Program} (w : World) (dT sT ty elem : TypeId) (i : TypeInfo) (d a : Option Addr) (dLen dCap sLen sCap : Nat) (hu : P.underlying dT = some (.slice elem)) (hq : P.info? elem = some i) (hn : Nat.min sLen dLen = 0) :
    (Builtin.copy_ #[dT, sT] ty #[.slice d dLen dCap, .slice a sLen sCap]).run P w = .ok (goInt 0) w := by
  have hl : ∀ (x : Addr), (loadCells x 0).run P w = .ok #[] w := fun x => by simpa using run_loadCells_list (P := P) w x [] (by simp)
  cases d <;> cases a <;> simp [Builtin.copy_, run_underlying hu, Builtin.lenOf, Builtin.firstCells, sizeOf, typeInfo, hq, hn, storeCells, hl]
/-- copy of all of a slice, nil too, into a row of the same length. -/
theorem wpList_copy_rows {P : Program} {w : World} {ops : Array Oper} {rest : List Oper} {o : Oper} {a : Act} {Q : Exit → Act → World → Prop} (hgd : o.guard = none) (d s : Operand) (dT sT : TypeId)
    (ho : o.op = .call { callee := .builtin .copy, args := #[d, s], argTypes := #[dT, sT] }) (elem : TypeId) (i : TypeInfo) (size : Nat) (hu : P.underlying dT = some (.slice elem)) (hi : P.info? elem = some i) (hz : i.size = size)
    (g n dCap : Nat) (sa : Option Addr) (sCap : Nat) (hd : a.eval d = .slice (some ⟨g, 0, none⟩) n dCap) (hs : a.eval s = .slice sa n sCap)
    (cur : List Value) (t : TypeId) (hg : w.heap[g]? = some (.cells cur.toArray t (0, 0))) (cs : List Value) (hl : cs.length = n * size) (hcur : cur.length = n * size) (hnil : sa = none → n = 0)
    (hsrc : ∀ ad, sa = some ad → ∀ j v, cs[j]? = some v → w.cell? (ad.add j) = some v) (h1 : ∀ v ∈ cs, v.oneCell' = true)
    (h : ∀ w', Hid (w'.heap[g]? = some (.cells cs.toArray t (0, 0))) → Hid (∀ B w0, Below B w0 w → B ≤ g → Below B w0 w') → wpList P ops Q rest (a.put o.dst (goInt n)) w') : wpList P ops Q (o :: rest) a w := by
  subst hz
  by_cases h0 : n = 0
  · subst h0
    rw [Nat.zero_mul] at hl hcur
    obtain rfl : cs = [] := List.eq_nil_of_length_eq_zero hl
    obtain rfl : cur = [] := List.eq_nil_of_length_eq_zero hcur
    refine wpList_plain hgd fun K hK => ?_
    have hrun := run_copy_noneW (P := P) w dT sT o.type elem i (some ⟨g, 0, none⟩) sa 0 dCap 0 sCap hu hi rfl
    unfold Oper.wp
    simp [execOp, ho, resolve, invoke, builtin, hd, hs, hrun, Result.andThen]
    exact hK _ _ (h w hg (fun _ _ hb _ => hb))
  · cases sa with
    | none => exact absurd (hnil rfl) h0
    | some ad =>
      refine wpList_copy_wide hgd d s dT sT ho elem i hu hi g 0 n dCap ad n sCap n hd hs cur t hg cs (Nat.min_self n).symm hl (hsrc ad rfl) (by omega) h1 (fun w' hw hb => h w' ?_ hb)
      show _ = _
      rw [hw]
      simp [hl, hcur]

end Go.Proofs.Ytgjfmepbphfjoaa
