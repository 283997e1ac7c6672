/-
  How ports, and graphs, that come in as arguments read: what they lead to in memory.
-/
import Derived.Test.YtgjfmepbphfjoaaUPk
import Derived.Test.YtgjfmepbphfjoaaUPwCt
namespace Go.Proofs.Ytgjfmepbphfjoaa
open Go.ChangeShapes Go.WideShapes Go.ChangeAt Go.RowKit
set_option linter.unusedVariables false

variable {H : Type} {enc : TypeId × Value → H} {w : World} {base : Nat} {spare : Nat → Bool} {held : Bool}

set_option maxRecDepth 100000 in
theorem cellsPortP : Try.prog.cellsOf 47 = 5 := by kernel_rfl

theorem list_ofG (len : Nat) (P : Nat → List Cl → Prop) (h : ∀ i, i < len → ∃ x, P i x) : ∃ S : List (List Cl), S.length = len ∧ ∀ i, i < len → P i (gr S i) := by
  induction len with
  | zero => exact ⟨[], rfl, fun i hi => absurd hi (Nat.not_lt_zero _)⟩
  | succ n ih =>
    obtain ⟨S, hl, hS⟩ := ih (fun i hi => h i (by omega))
    obtain ⟨x, hx⟩ := h n (by omega)
    refine ⟨S ++ [x], by simp [hl], fun i hi => ?_⟩
    by_cases e : i = n
    · subst e
      rw [← hl, gr_last]
      rw [hl]
      exact hx
    · rw [gr_left (by omega)]
      exact hS i (by omega)
theorem list_ofP (len : Nat) (P : Nat → Pt → Prop) (h : ∀ i, i < len → ∃ x, P i x) : ∃ S : List Pt, S.length = len ∧ ∀ i, i < len → P i (pt S i) := by
  induction len with
  | zero => exact ⟨[], rfl, fun i hi => absurd hi (Nat.not_lt_zero _)⟩
  | succ n ih =>
    obtain ⟨S, hl, hS⟩ := ih (fun i hi => h i (by omega))
    obtain ⟨x, hx⟩ := h n (by omega)
    refine ⟨S ++ [x], by simp [hl], fun i hi => ?_⟩
    by_cases e : i = n
    · subst e
      rw [← hl, pt_last]
      rw [hl]
      exact hx
    · rw [pt_left (by omega)]
      exact hS i (by omega)

set_option maxRecDepth 100000 in
theorem open_graphsT {fuel : Nat} {cs : List Value} {x : DataW H × List MemPlace} (h : DataW.trod enc Try.prog w base spare held fuel 41 cs = some x) :
    ∃ a c, ∃ S : List (List Cl), cs = [.slice a S.length c] ∧ S.length ≤ 9223372036854775807 ∧ BigG S ∧ GrsC w a c S := by
  rcases Go.Deep.open_slice Try.underlying41 h with ⟨rfl, _⟩ | ⟨a, len, cap, m, n, D, Pl, rfl, _, hl, hm, hmm, _, hx⟩
  · exact ⟨none, 0, [], rfl, by simp, fun i hi => absurd hi (Nat.not_lt_zero _), ⟨fun _ => rfl, by simp, by omega⟩, fun i hi => absurd hi (Nat.not_lt_zero _)⟩
  · have hlm : len ≤ m := by rw [hmm]; split <;> omega
    have hm2 : cap ≤ 9223372036854775807 := by unfold maxLen at hm; omega
    obtain ⟨ab, ao, spot⟩ := a
    by_cases h0 : len = 0
    · subst h0
      exact ⟨_, cap, [], rfl, by simp, fun i hi => absurd hi (Nat.not_lt_zero _), ⟨(fun e => by cases e), by simp, hm2⟩, fun i hi => absurd hi (Nat.not_lt_zero _)⟩
    · have hsp : spot = none := by
        obtain ⟨cs', hc, ht⟩ := hx 0 (by omega)
        rw [cellsGraphC] at hc
        obtain ⟨_, hl8, hce⟩ := World.cells?_some hc
        have h1 := hce 0 (by omega)
        rw [List.getElem?_eq_getElem (by omega)] at h1
        simpa [Addr.add] using World.cell?_spot h1
      subst hsp
      obtain ⟨S, hS1, hS2⟩ := list_ofG len (fun i x => (∃ ga gc, w.cell? ⟨ab, ao + i, none⟩ = some (.slice ga x.length gc) ∧ ClsAt w ga x) ∧ x.length ≤ 9223372036854775807 ∧ BigC x) (fun i hi => by
        obtain ⟨cs', hc, ht⟩ := hx i (by omega)
        rw [cellsGraphC] at hc
        obtain ⟨_, hl8, hce⟩ := World.cells?_some hc
        match cs', hl8 with
        | [a0], _ =>
          obtain ⟨y0, n', _, _, g0⟩ := trod_struct1 Try.underlying25 ht
          obtain ⟨ga, gc, G, e, h1, h2, h3⟩ := open_cells g0
          cases e
          refine ⟨G, ⟨ga, gc, ?_, h3⟩, h1, h2⟩
          have h4 := hce 0 (by omega)
          rw [add_plain, add_plain, Nat.mul_one, Nat.add_zero] at h4
          exact h4)
      exact ⟨some ⟨ab, ao, none⟩, cap, S, by rw [hS1], by rw [hS1]; omega, fun i hi => (hS2 i (by omega)).2, ⟨(fun e => by cases e), by rw [hS1]; exact hl, hm2⟩, fun i hi => by
        obtain ⟨ga, gc, c0, hcl⟩ := (hS2 i (by omega)).1
        exact ⟨ab, ao, ga, gc, rfl, c0, hcl⟩⟩

set_option maxRecDepth 100000 in
theorem open_portT {fuel b o : Nat} {cs : List Value} {x : DataW H × List MemPlace} (h : DataW.trod enc Try.prog w base spare held fuel 47 cs = some x) (hc : ∀ j, j < 5 → w.cell? ⟨b, o + j, none⟩ = cs[j]?) :
    ∃ y : Pt, PtAt w b o y ∧ y.cm.length ≤ 9223372036854775807 ∧ BigG y.cm := by
  obtain ⟨xs, n, _, _, hl, hxl, hf⟩ := DataW.trod_struct Try.underlying47 h
  rw [cellsPortP] at hl
  match cs, hl with
  | [a0, a1, a2, a3, a4], _ =>
    match xs, hxl with
    | [x0, x1, x2, x3, x4], _ =>
      have g0 := hf 0 _ rfl
      have g1 := hf 1 _ rfl
      have g2 := hf 2 _ rfl
      have g3 := hf 3 _ rfl
      have g4 := hf 4 _ rfl
      obtain ⟨n0, e0, _⟩ := DataW.trod_int Try.underlying3 g0
      obtain ⟨n1, e1, _⟩ := DataW.trod_int Try.underlying3 g1
      obtain ⟨n2, e2, _⟩ := DataW.trod_int Try.underlying3 g2
      obtain ⟨ca, cc, C, e3, hk1, hk2, hI⟩ := open_graphsT g3
      obtain ⟨n4, e4, _⟩ := DataW.trod_bool Try.underlying4 g4
      cases e0; cases e1; cases e2; cases e3; cases e4
      exact ⟨⟨n0, n1, n2, C, n4⟩, ⟨hc 0 (by omega), hc 1 (by omega), hc 2 (by omega), ca, cc, hc 3 (by omega), hI, hc 4 (by omega)⟩, hk1, hk2⟩

set_option maxRecDepth 100000 in
theorem open_portsT {fuel : Nat} {cs : List Value} {x : DataW H × List MemPlace} (h : DataW.trod enc Try.prog w base spare held fuel 22 cs = some x) :
    ∃ a c, ∃ S : List Pt, cs = [.slice a S.length c] ∧ S.length ≤ 9223372036854775807 ∧ BigP S ∧ SlA a S.length c ∧ PtsAt w a S := by
  rcases Go.Deep.open_slice Try.underlying22 h with ⟨rfl, _⟩ | ⟨a, len, cap, m, n, D, Pl, rfl, _, hl, hm, hmm, _, hx⟩
  · exact ⟨none, 0, [], rfl, by simp, fun i hi => absurd hi (Nat.not_lt_zero _), ⟨fun _ => rfl, by simp, by omega⟩, fun i hi => absurd hi (Nat.not_lt_zero _)⟩
  · have hlm : len ≤ m := by rw [hmm]; split <;> omega
    have hm2 : cap ≤ 9223372036854775807 := by unfold maxLen at hm; omega
    obtain ⟨ab, ao, spot⟩ := a
    by_cases h0 : len = 0
    · subst h0
      exact ⟨_, cap, [], rfl, by simp, fun i hi => absurd hi (Nat.not_lt_zero _), ⟨(fun e => by cases e), by simp, hm2⟩, fun i hi => absurd hi (Nat.not_lt_zero _)⟩
    · have hsp : spot = none := by
        obtain ⟨cs', hc, ht⟩ := hx 0 (by omega)
        rw [cellsPortP] at hc
        obtain ⟨_, hl8, hce⟩ := World.cells?_some hc
        have h1 := hce 0 (by omega)
        rw [List.getElem?_eq_getElem (by omega)] at h1
        simpa [Addr.add] using World.cell?_spot h1
      subst hsp
      obtain ⟨S, hS1, hS2⟩ := list_ofP len (fun i x => PtAt w ab (ao + i * 5) x ∧ x.cm.length ≤ 9223372036854775807 ∧ BigG x.cm) (fun i hi => by
        obtain ⟨cs', hc, ht⟩ := hx i (by omega)
        rw [cellsPortP] at hc
        obtain ⟨_, hl8, hce⟩ := World.cells?_some hc
        refine open_portT ht (fun j hj => ?_)
        have h1 := hce j hj
        rwa [add_plain, add_plain] at h1)
      exact ⟨some ⟨ab, ao, none⟩, cap, S, by rw [hS1], by rw [hS1]; omega, fun i hi => (hS2 i (by omega)).2, ⟨(fun e => by cases e), by rw [hS1]; exact hl, hm2⟩, fun i hi => ⟨ab, ao, rfl, (hS2 i (by omega)).1⟩⟩

set_option maxRecDepth 100000 in
theorem open_ports {r : Reach} {b0 : Nat} {v : Value} {d : DataW H} {p : List MemPlace} (hv : Value.okWide Try.prog w r b0 22 v) (h : DataW.Trod enc Try.prog w base spare held 22 v d p) :
    ∃ a c, ∃ S : List Pt, v = .slice a S.length c ∧ S.length ≤ 9223372036854775807 ∧ BigP S ∧ SlA a S.length c ∧ PtsAt w a S := by
  obtain ⟨xa, len, cap, rfl⟩ := okWide_slice Try.underlying22 hv
  obtain ⟨fuel, hf⟩ := h
  obtain ⟨ka, kc, ks, e, h1, h2, h3, h4⟩ := open_portsT hf
  simp [Value.cells] at e
  obtain ⟨rfl, rfl, rfl⟩ := e
  exact ⟨_, _, ks, rfl, h1, h2, h3, h4⟩

set_option maxRecDepth 100000 in
theorem open_graphs {r : Reach} {b0 : Nat} {v : Value} {d : DataW H} {p : List MemPlace} (hv : Value.okWide Try.prog w r b0 41 v) (h : DataW.Trod enc Try.prog w base spare held 41 v d p) :
    ∃ a c, ∃ S : List (List Cl), v = .slice a S.length c ∧ S.length ≤ 9223372036854775807 ∧ BigG S ∧ GrsC w a c S := by
  obtain ⟨xa, len, cap, rfl⟩ := okWide_slice Try.underlying41 hv
  obtain ⟨fuel, hf⟩ := h
  obtain ⟨ka, kc, ks, e, h1, h2, h3⟩ := open_graphsT hf
  simp [Value.cells] at e
  obtain ⟨rfl, rfl, rfl⟩ := e
  exact ⟨_, _, ks, rfl, h1, h2, h3⟩
end Go.Proofs.Ytgjfmepbphfjoaa
