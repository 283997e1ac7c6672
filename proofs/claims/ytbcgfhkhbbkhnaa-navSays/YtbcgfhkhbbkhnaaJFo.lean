/-
  Frames that come in as an argument.
-/
import Derived.Test.YtbcgfhkhbbkhnaaJFb
import Derived.WalkKit
import Derived.ProofKit
import Derived.OpenShut
import Derived.ChangeOld
import Derived.Below
import Derived.Deep.Slices
import Derived.Lib.SmallJoins
namespace Go.Proofs.Ytbcgfhkhbbkhnaa
open Go.ChangeShapes Go.WideShapes Go.ChangeAt Go.RowKit
set_option linter.unusedVariables false

set_option maxRecDepth 100000 in
theorem cellsFrame : Try.prog.cellsOf 29 = 5 := by kernel_rfl

theorem frames_of (len : Nat) (P : Nat → Fr → Prop) (h : ∀ i, i < len → ∃ x, P i x) : ∃ S : List Fr, S.length = len ∧ ∀ i, i < len → P i (fr S i) := by
  induction len with
  | zero => exact ⟨[], rfl, fun i hi => absurd hi (Nat.not_lt_zero _)⟩
  | succ n ih =>
    obtain ⟨S, hl, hS⟩ := ih (fun i hi => h i (by omega))
    obtain ⟨x, hx⟩ := h n (by omega)
    refine ⟨S ++ [x], by simp [hl], fun i hi => ?_⟩
    unfold fr
    by_cases e : i = n
    · subst e
      rw [getD_elem _ _ (by simp [hl])]
      simpa [hl] using hx
    · have hi' : i < S.length := by omega
      have := hS i (by omega)
      unfold fr at this
      rw [getD_elem _ _ hi'] at this
      rw [getD_elem _ _ (by simp; omega), List.getElem_append_left hi']
      exact this

variable {H : Type} {enc : TypeId × Value → H} {w : World} {base : Nat} {spare : Nat → Bool} {held : Bool}

set_option maxRecDepth 100000 in
theorem open_frames {r : Reach} {b0 : Nat} {v : Value} {d : DataW H} {p : List MemPlace} (hv : Value.okWide Try.prog w r b0 22 v) (h : DataW.Trod enc Try.prog w base spare held 22 v d p) :
    ∃ a c, ∃ q : List Fr, v = .slice a q.length c ∧ q.length ≤ 9223372036854775807 ∧ FrsAt w a q := by
  obtain ⟨a0, len0, cap0, rfl⟩ := okWide_slice Try.underlying22 hv
  obtain ⟨fuel, hf⟩ := h
  rcases Go.Deep.open_slice Try.underlying22 hf with ⟨e, _⟩ | ⟨a, len, cap, m, n, D, Pl, e, _, hl, hm, hmm, _, hx⟩
  · simp [Value.cells] at e
    obtain ⟨rfl, rfl, rfl⟩ := e
    exact ⟨none, 0, [], rfl, by simp, fun i hi => absurd hi (Nat.not_lt_zero _)⟩
  · simp [Value.cells] at e
    obtain ⟨rfl, rfl, rfl⟩ := e
    have hlm : len0 ≤ m := by rw [hmm]; split <;> omega
    obtain ⟨ab, ao, spot⟩ := a
    by_cases h0 : len0 = 0
    · subst h0
      exact ⟨_, cap0, [], rfl, by simp, fun i hi => absurd hi (Nat.not_lt_zero _)⟩
    · have hsp : spot = none := by
        obtain ⟨cs', hc, ht⟩ := hx 0 (by omega)
        rw [cellsFrame] at hc
        obtain ⟨_, hl8, hce⟩ := World.cells?_some hc
        have h1 := hce 0 (by omega)
        rw [List.getElem?_eq_getElem (by omega)] at h1
        simpa [Addr.add] using World.cell?_spot h1
      subst hsp
      obtain ⟨S, hS1, hS2⟩ := frames_of len0 (fun i x => w.cell? ⟨ab, ao + i * 5, none⟩ = some (.int .i64 x.p) ∧ w.cell? ⟨ab, ao + i * 5 + 1, none⟩ = some (.int .i64 x.o) ∧ w.cell? ⟨ab, ao + i * 5 + 2, none⟩ = some (.int .i64 x.m) ∧ w.cell? ⟨ab, ao + i * 5 + 3, none⟩ = some (.int .i64 x.t) ∧ w.cell? ⟨ab, ao + i * 5 + 4, none⟩ = some (.bool x.g)) (fun i hi => by
        obtain ⟨cs', hc, ht⟩ := hx i (by omega)
        rw [cellsFrame] at hc
        obtain ⟨_, hl2, hce⟩ := World.cells?_some hc
        obtain ⟨xs, n', _, _, hl', hxl, hf'⟩ := DataW.trod_struct Try.underlying29 ht
        match cs', hl2 with
        | [a0, a1, a2, a3, a4], _ =>
          match xs, hxl with
          | [x0, x1, x2, x3, x4], _ =>
            have g0 := hf' 0 _ rfl
            have g1 := hf' 1 _ rfl
            have g2 := hf' 2 _ rfl
            have g3 := hf' 3 _ rfl
            have g4 := hf' 4 _ rfl
            obtain ⟨n0, e0, _⟩ := DataW.trod_int Try.underlying3 g0
            obtain ⟨n1, e1, _⟩ := DataW.trod_int Try.underlying3 g1
            obtain ⟨n2, e2, _⟩ := DataW.trod_int Try.underlying3 g2
            obtain ⟨n3, e3, _⟩ := DataW.trod_int Try.underlying3 g3
            obtain ⟨n4, e4, _⟩ := DataW.trod_bool Try.underlying4 g4
            cases e0; cases e1; cases e2; cases e3; cases e4
            refine ⟨⟨n0, n1, n2, n3, n4⟩, ?_, ?_, ?_, ?_, ?_⟩
            · have h1 := hce 0 (by omega)
              rwa [add_plain, add_plain] at h1
            · have h1 := hce 1 (by omega)
              rwa [add_plain, add_plain] at h1
            · have h1 := hce 2 (by omega)
              rwa [add_plain, add_plain] at h1
            · have h1 := hce 3 (by omega)
              rwa [add_plain, add_plain] at h1
            · have h1 := hce 4 (by omega)
              rwa [add_plain, add_plain] at h1)
      exact ⟨some ⟨ab, ao, none⟩, cap0, S, by rw [hS1], by rw [hS1]; unfold maxLen at hm; omega, fun i hi => ⟨ab, ao, rfl, hS2 i (by omega)⟩⟩

end Go.Proofs.Ytbcgfhkhbbkhnaa
