/-
  A row of hands opened; what a check that says nothing says.
-/
import Derived.Test.YtjlapfgghljidaaUToTp
import Derived.Test.YtjlapfgghljidaaUWbWdSrWfTm
namespace Go.Proofs.Ytjlapfgghljidaa
open Go.ChangeShapes Go.WideShapes Go.ChangeAt Go.RowKit

set_option maxRecDepth 100000 in
theorem cellsHand : Try.prog.cellsOf 26 = 2 := by kernel_rfl

theorem hands_of (len : Nat) (P : Nat → Int × Int → Prop) (h : ∀ i, i < len → ∃ x, P i x) : ∃ S : List (Int × Int), S.length = len ∧ ∀ i, i < len → P i (S.getD i (0, 0)) := by
  induction len with
  | zero => exact ⟨[], rfl, fun i hi => absurd hi (Nat.not_lt_zero _)⟩
  | succ n ih =>
    obtain ⟨S, hl, hS⟩ := ih (fun i hi => h i (by omega))
    obtain ⟨x, hx⟩ := h n (by omega)
    refine ⟨S ++ [x], by simp [hl], fun i hi => ?_⟩
    by_cases e : i = n
    · subst e
      rw [getD_elem _ _ (by simp [hl])]
      simpa [hl] using hx
    · have hi' : i < S.length := by omega
      have := hS i (by omega)
      rw [getD_elem _ _ hi'] at this
      rw [getD_elem _ _ (by simp; omega), List.getElem_append_left hi']
      exact this

variable {H : Type} {enc : TypeId × Value → H} {w : World} {base : Nat} {spare : Nat → Bool} {held : Bool}

set_option maxRecDepth 100000 in
theorem open_hands {r : Reach} {b0 : Nat} {v : Value} {d : DataW H} {p : List MemPlace} (hv : Value.okWide Try.prog w r b0 48 v) (h : DataW.Trod enc Try.prog w base spare held 48 v d p) :
    ∃ a c, ∃ hs : List (Int × Int), v = .slice a hs.length c ∧ hs.length ≤ 9223372036854775807 ∧ HandsAt w a hs := by
  obtain ⟨a0, len0, cap0, rfl⟩ := okWide_slice Try.underlying48 hv
  obtain ⟨fuel, hf⟩ := h
  rcases Go.Deep.open_slice Try.underlying48 hf with ⟨e, _⟩ | ⟨a, len, cap, m, n, D, Pl, e, _, hl, hm, hmm, _, hx⟩
  · simp [Value.cells] at e
    obtain ⟨rfl, rfl, rfl⟩ := e
    exact ⟨none, 0, [], rfl, by simp, fun i hi => absurd hi (Nat.not_lt_zero _)⟩
  · simp [Value.cells] at e
    obtain ⟨rfl, rfl, rfl⟩ := e
    have hlm : len0 ≤ m := by rw [hmm]; split <;> omega
    obtain ⟨ab, ao, spot⟩ := a
    by_cases h0 : len0 = 0
    · subst h0
      exact ⟨_, cap0, [], rfl, by simp, fun i hi => absurd hi (Nat.not_lt_zero _)⟩
    · have hsp : spot = none := by
        obtain ⟨cs', hc, ht⟩ := hx 0 (by omega)
        rw [cellsHand] at hc
        obtain ⟨_, hl8, hce⟩ := World.cells?_some hc
        have h1 := hce 0 (by omega)
        rw [List.getElem?_eq_getElem (by omega)] at h1
        simpa [Addr.add] using World.cell?_spot h1
      subst hsp
      obtain ⟨S, hS1, hS2⟩ := hands_of len0 (fun i x => w.cell? ⟨ab, ao + i * 2, none⟩ = some (.int .i64 x.1) ∧ w.cell? ⟨ab, ao + i * 2 + 1, none⟩ = some (.int .i64 x.2)) (fun i hi => by
        obtain ⟨cs', hc, ht⟩ := hx i (by omega)
        rw [cellsHand] at hc
        obtain ⟨_, hl2, hce⟩ := World.cells?_some hc
        obtain ⟨xs, n', _, _, hl', hxl, hf'⟩ := DataW.trod_struct Try.underlying26 ht
        match cs', hl2 with
        | [a0, a1], _ =>
          match xs, hxl with
          | [x0, x1], _ =>
            have g0 := hf' 0 _ rfl
            have g1 := hf' 1 _ rfl
            obtain ⟨n0, e0, _⟩ := DataW.trod_int Try.underlying3 g0
            obtain ⟨n1, e1, _⟩ := DataW.trod_int Try.underlying3 g1
            cases e0; cases e1
            refine ⟨(n0, n1), ?_, ?_⟩
            · have h1 := hce 0 (by omega)
              rwa [add_plain, add_plain] at h1
            · have h1 := hce 1 (by omega)
              rwa [add_plain, add_plain] at h1)
      exact ⟨some ⟨ab, ao, none⟩, cap0, S, by rw [hS1], by rw [hS1]; unfold maxLen at hm; omega, fun i hi => ⟨ab, ao, rfl, (hS2 i (by omega)).1, (hS2 i (by omega)).2⟩⟩

theorem tcheck_wf {S : List Nd} {hs : List (Int × Int)} (h : tcheckE S hs = 0) : WF S ∧ ∀ x ∈ hs, ∃ k : Nat, x.1 = k ∧ k < S.length ∧ (nd S k).u = true ∧ (nd S k).n = x.2 := by
  unfold tcheckE at h
  split at h
  · rename_i hw
    refine ⟨(wf_iff S).1 hw, ?_⟩
    induction hs with
    | nil => intro x hx; cases hx
    | cons y r ih =>
      unfold handsE at h
      split at h
      · rename_i h0
        intro x hx
        rcases List.mem_cons.1 hx with rfl | hx
        · exact holds_zero h0
        · exact ih h x hx
      · exact absurd h (by assumption)
  · exact absurd h (by assumption)

end Go.Proofs.Ytjlapfgghljidaa
