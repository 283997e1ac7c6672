/-
  Open, Pass, Push, Pull, Shut, Check of package port, at the landed code: all in one place.
-/
import Derived.Test.YtgjfmepbphfjoaaUPwf
import Derived.Test.YtgjfmepbphfjoaaUPwg
import Derived.Test.YtgjfmepbphfjoaaUCb
import Derived.WalkKit
import Derived.ProofKit
import Derived.OpenShut
import Derived.ChangeOld
import Derived.Below
import Derived.Deep.Slices
import Derived.Lib.SmallJoins
namespace Go.Proofs.Ytgjfmepbphfjoaa
theorem port_all : OpenAnsX ∧ PassAnsX ∧ PushAnsX ∧ PullAnsX ∧ ShutAnsX ∧ PCheckAns := ⟨open_ansX, pass_ansX, push_ansX, pull_ansX, shut_ansX, pcheck_ans⟩
end Go.Proofs.Ytgjfmepbphfjoaa

namespace Go.Proofs.Ytgjfmepbphfjoaa
open Go.ChangeShapes Go.WideShapes Go.ChangeAt Go.RowKit
set_option linter.unusedVariables false

variable {H : Type} {enc : TypeId × Value → H} {w : World} {base : Nat} {spare : Nat → Bool} {held : Bool}

set_option maxRecDepth 100000 in
theorem cellsIntC : Try.prog.cellsOf 3 = 1 := by kernel_rfl
set_option maxRecDepth 100000 in
theorem cellsCellC : Try.prog.cellsOf 62 = 2 := by kernel_rfl
set_option maxRecDepth 100000 in
theorem cellsGraphC : Try.prog.cellsOf 25 = 1 := by kernel_rfl

set_option maxRecDepth 100000 in
theorem open_kidsC {fuel : Nat} {cs : List Value} {x : DataW H × List MemPlace} (h : DataW.trod enc Try.prog w base spare held fuel 40 cs = some x) :
    ∃ ka kc, ∃ ks : List Int, cs = [.slice ka ks.length kc] ∧ ks.length ≤ kc ∧ kc ≤ 9223372036854775807 ∧ IntsAt w ka ks := by
  rcases open_ints Try.underlying40 Try.underlying3 cellsIntC h with ⟨rfl, _⟩ | ⟨a, len, cap, zs, rfl, _, hl, hm, hz, _, hcell, _⟩
  · exact ⟨none, 0, [], rfl, by simp, by omega, fun i hi => absurd hi (Nat.not_lt_zero _)⟩
  · have hlz : len ≤ zs.length := by rw [hz]; split <;> omega
    have htl : (zs.take len).length = len := by rw [List.length_take]; omega
    refine ⟨some a, cap, zs.take len, by rw [htl], by rw [htl]; exact hl, by unfold maxLen at hm; omega, fun i hi => ?_⟩
    rw [htl] at hi
    obtain ⟨b, off, rfl, hc⟩ := ints_at hcell (by omega)
    refine ⟨b, off, rfl, ?_⟩
    rw [hc i (by omega), getD_elem zs 0 (by omega), getD_elem (zs.take len) 0 (by omega), List.getElem_take]

set_option maxRecDepth 100000 in
theorem open_cell {fuel b o : Nat} {cs : List Value} {x : DataW H × List MemPlace} (h : DataW.trod enc Try.prog w base spare held fuel 62 cs = some x) (hc : ∀ j, j < 2 → w.cell? ⟨b, o + j, none⟩ = cs[j]?) :
    ∃ y : Cl, ClAt w b o y ∧ y.ks.length ≤ 9223372036854775807 := by
  obtain ⟨xs, n, _, _, hl, hxl, hf⟩ := DataW.trod_struct Try.underlying62 h
  rw [cellsCellC] at hl
  match cs, hl with
  | [a0, a1], _ =>
    match xs, hxl with
    | [x0, x1], _ =>
      have g0 := hf 0 _ rfl
      have g1 := hf 1 _ rfl
      obtain ⟨n1, e1, _⟩ := DataW.trod_int Try.underlying3 g0
      obtain ⟨ka, kc, ks, e5, hk1, hk2, hI⟩ := open_kidsC g1
      cases e1; cases e5
      exact ⟨⟨n1, ks⟩, ⟨hc 0 (by omega), ka, kc, hc 1 (by omega), hI⟩, by show ks.length ≤ _; omega⟩

theorem list_ofC (len : Nat) (P : Nat → Cl → Prop) (h : ∀ i, i < len → ∃ x, P i x) : ∃ S : List Cl, S.length = len ∧ ∀ i, i < len → P i (cl S i) := by
  induction len with
  | zero => exact ⟨[], rfl, fun i hi => absurd hi (Nat.not_lt_zero _)⟩
  | succ n ih =>
    obtain ⟨S, hl, hS⟩ := ih (fun i hi => h i (by omega))
    obtain ⟨x, hx⟩ := h n (by omega)
    refine ⟨S ++ [x], by simp [hl], fun i hi => ?_⟩
    by_cases e : i = n
    · subst e
      rw [cl_elem (by simp [hl])]
      simpa [hl] using hx
    · have hi' : i < S.length := by omega
      have := hS i (by omega)
      rw [cl_elem hi'] at this
      rw [cl_elem (by simp; omega), List.getElem_append_left hi']
      exact this

set_option maxRecDepth 100000 in
theorem open_cells {fuel : Nat} {cs : List Value} {x : DataW H × List MemPlace} (h : DataW.trod enc Try.prog w base spare held fuel 23 cs = some x) :
    ∃ a c, ∃ S : List Cl, cs = [.slice a S.length c] ∧ S.length ≤ 9223372036854775807 ∧ BigC S ∧ ClsAt w a S := by
  rcases Go.Deep.open_slice Try.underlying23 h with ⟨rfl, _⟩ | ⟨a, len, cap, m, n, D, Pl, rfl, _, hl, hm, hmm, _, hx⟩
  · exact ⟨none, 0, [], rfl, by simp, fun i hi => absurd hi (Nat.not_lt_zero _), fun i hi => absurd hi (Nat.not_lt_zero _)⟩
  · have hlm : len ≤ m := by rw [hmm]; split <;> omega
    obtain ⟨ab, ao, spot⟩ := a
    by_cases h0 : len = 0
    · subst h0
      exact ⟨_, cap, [], rfl, by simp, fun i hi => absurd hi (Nat.not_lt_zero _), fun i hi => absurd hi (Nat.not_lt_zero _)⟩
    · have hsp : spot = none := by
        obtain ⟨cs', hc, ht⟩ := hx 0 (by omega)
        rw [cellsCellC] at hc
        obtain ⟨_, hl8, hce⟩ := World.cells?_some hc
        have h1 := hce 0 (by omega)
        rw [List.getElem?_eq_getElem (by omega)] at h1
        simpa [Addr.add] using World.cell?_spot h1
      subst hsp
      obtain ⟨S, hS1, hS2⟩ := list_ofC len (fun i x => ClAt w ab (ao + i * 2) x ∧ x.ks.length ≤ 9223372036854775807) (fun i hi => by
        obtain ⟨cs', hc, ht⟩ := hx i (by omega)
        rw [cellsCellC] at hc
        obtain ⟨_, hl8, hce⟩ := World.cells?_some hc
        refine open_cell ht (fun j hj => ?_)
        have h1 := hce j hj
        rwa [add_plain, add_plain] at h1)
      exact ⟨some ⟨ab, ao, none⟩, cap, S, by rw [hS1], by rw [hS1]; unfold maxLen at hm; omega, fun i hi => (hS2 i (by omega)).2, fun i hi => ⟨ab, ao, rfl, (hS2 i (by omega)).1⟩⟩

set_option maxRecDepth 100000 in
theorem open_graph {r : Reach} {b0 : Nat} {v : Value} {d : DataW H} {p : List MemPlace} (hv : Value.okWide Try.prog w r b0 25 v) (h : DataW.Trod enc Try.prog w base spare held 25 v d p) :
    ∃ a c, ∃ S : List Cl, v = .agg #[.slice a S.length c] ∧ S.length ≤ 9223372036854775807 ∧ BigC S ∧ ClsAt w a S := by
  obtain ⟨cs, rfl, hsz⟩ := okWide_struct Try.underlying25 hv
  rw [cellsGraphC] at hsz
  obtain ⟨c0, rfl⟩ : ∃ c0, cs = #[c0] := by
    obtain ⟨l⟩ := cs
    match l, hsz with
    | [c0], _ => exact ⟨c0, rfl⟩
  obtain ⟨fuel, hf⟩ := h
  obtain ⟨y0, n, _, _, h0⟩ := trod_struct1 Try.underlying25 hf
  obtain ⟨a, c, S, e, h1, h2, h3⟩ := open_cells h0
  cases e
  exact ⟨a, c, S, rfl, h1, h2, h3⟩

set_option maxRecDepth 100000 in
theorem open_numbers {r : Reach} {b0 : Nat} {v : Value} {d : DataW H} {p : List MemPlace} (hv : Value.okWide Try.prog w r b0 40 v) (h : DataW.Trod enc Try.prog w base spare held 40 v d p) :
    ∃ a c, ∃ z : List Int, v = .slice a z.length c ∧ z.length ≤ c ∧ c ≤ 9223372036854775807 ∧ IntsAt w a z := by
  obtain ⟨xa, len, cap, rfl⟩ := okWide_slice Try.underlying40 hv
  obtain ⟨fuel, hf⟩ := h
  obtain ⟨ka, kc, ks, e, h1, h2, h3⟩ := open_kidsC hf
  simp [Value.cells] at e
  obtain ⟨rfl, rfl, rfl⟩ := e
  exact ⟨_, _, ks, rfl, h1, h2, h3⟩
end Go.Proofs.Ytgjfmepbphfjoaa
