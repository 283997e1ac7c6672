/-
  The closed fact of the laws on trees.
-/
import Derived.Test.YtjlapfgghljidabUTn
import Derived.WalkKit
import Derived.ProofKit
import Derived.OpenShut
import Derived.ChangeOld
import Derived.Below
import Derived.Deep.Slices
import Derived.Lib.SmallJoins
namespace Go.Proofs.Ytjlapfgghljidab
open Go.RowKit

theorem big_of {S : List Nd} (h : ∀ i, i < S.length → (nd S i).ks.length ≤ 1000) : Big S := fun i hi => Nat.le_trans (h i hi) (by omega)

theorem grown_low {w w1 : World} {g : Nat} (hb : Below (w.heap.size + 1 + 1) ((w.alloc (.cells #[.slice (some ⟨g, 0, none⟩) 6 6] 24)).alloc (.cells #[.int .i64 0, .int .i64 1, .int .i64 1, .int .i64 1, .int .i64 2, .int .i64 1] 64)) w1) :
    w1.cell? ⟨w.heap.size, 0, none⟩ = some (.slice (some ⟨g, 0, none⟩) 6 6) ∧ w1.cell? ⟨w.heap.size + 1, 0, none⟩ = some (.int .i64 0) ∧ w1.cell? ⟨w.heap.size + 1, 1, none⟩ = some (.int .i64 1) ∧ w1.cell? ⟨w.heap.size + 1, 2, none⟩ = some (.int .i64 1) ∧ w1.cell? ⟨w.heap.size + 1, 3, none⟩ = some (.int .i64 1) := by
  refine ⟨?_, ?_, ?_, ?_, ?_⟩
  · exact (hb.cell (by first | (simp; done) | (simp; omega))).trans (by go_simp)
  · exact (hb.cell (by first | (simp; done) | (simp; omega))).trans (by go_simp)
  · exact (hb.cell (by first | (simp; done) | (simp; omega))).trans (by go_simp)
  · exact (hb.cell (by first | (simp; done) | (simp; omega))).trans (by go_simp)
  · exact (hb.cell (by first | (simp; done) | (simp; omega))).trans (by go_simp)

set_option maxHeartbeats 1000000 in
theorem grown_ok : GrownOk := by
  intro w
  have fa := fun W => family_any W
  have FA : Hid _ := fa
  clear fa
  have od : Hid (∀ (g : Nat) (W : World), NdsAt W (some ⟨g, 0, none⟩) S5 → Calls Try.prog 9 #[.agg #[.slice (some ⟨g, 0, none⟩) 6 6], .agg #[.int .i64 0, .int .i64 1]] W fun e w' => ∃ sa cap, e = .returned (.tuple #[.slice sa 3 cap, .int .i64 0]) ∧ Below W.heap.size W w' ∧ IntsAt w' sa [0, 2, 1]) := fun g W hW => by
    have h := order_ok (some ⟨g, 0, none⟩) 6 S5 0 6 1 W (by decide) (big_of s5_ks) hW s5_check (by decide) (((wf_iff S5).1 (by decide)).deep_all (p := 0) (by decide)) (by decide)
    rw [s5_order] at h
    exact Calls.mono h (fun e w' ⟨sa, cap, h1, h2, h3, _⟩ => ⟨sa, cap, h1, h2, h3⟩)
  have bad : Hid (∀ (g : Nat) (W : World), NdsAt W (some ⟨g, 0, none⟩) S5 → Calls Try.prog 42 #[.agg #[.slice (some ⟨g, 0, none⟩) 6 6], .agg #[.int .i64 1, .int .i64 1], .agg #[.int .i64 0, .int .i64 1], .slice none 0 0] W fun e w' => e = .returned (.tuple #[.agg #[.slice none 0 0], .int .i64 6]) ∧ Below W.heap.size W w') := fun g W hW =>
    insert_nil_bad (some ⟨g, 0, none⟩) 6 S5 1 0 1 1 W (by decide) (big_of s5_ks) hW s5_check2 (by decide) s5_fit
  have EQ : Hid (∀ (sa : Option Addr) (cap vb : Nat) (W : World), IntsAt W sa [0, 2, 1] → W.cell? ⟨vb, 0, none⟩ = some (.int .i64 0) → W.cell? ⟨vb, 1, none⟩ = some (.int .i64 2) → W.cell? ⟨vb, 2, none⟩ = some (.int .i64 1) → Calls Try.prog 20 #[.slice sa 3 cap, .slice (some ⟨vb, 0, none⟩) 3 3] W fun e w' => e = .returned (.bool true) ∧ Below W.heap.size W w') := fun sa cap vb W h1 c0 c1 c2 => by
    have h := equal_any sa (some ⟨vb, 0, none⟩) cap 3 [0, 2, 1] [0, 2, 1] W (by decide) h1 (fun i hi => by
      match i, hi with
      | 0, _ => exact ⟨vb, 0, rfl, by simpa using c0⟩
      | 1, _ => exact ⟨vb, 0, rfl, by simpa using c1⟩
      | 2, _ => exact ⟨vb, 0, rfl, by simpa using c2⟩)
    rw [decide_eq_true rfl] at h
    exact h
  go_enter Try.func10, Try.ntmps10
  go_wp2_with (first
    | (go_at_call 41; refine (FA.out _).mono ?_; rintro e w1 ⟨g, rfl, hb1, hS1⟩; have HS1 : Hid (NdsAt w1 (some ⟨g, 0, none⟩) S5) := hS1; clear hS1)
    | (go_at_call 9; refine (od.out g _ (HS1.out.below (two_below _ _ _))).mono ?_; rintro e w2 ⟨sa, cap, rfl, hb2, hI2⟩; have HI2 : Hid (IntsAt w2 sa [0, 2, 1]) := hI2; clear hI2; simp only [World.size_alloc] at hb2; obtain ⟨l0, l1, l2, l3, l4⟩ := grown_low hb2; have hB2 : Below w1.heap.size w1 w2 := (two_below _ _ _).trans (hb2.mono (by omega)))
    | (go_at_call 42; refine (bad.out g _ (HS1.out.below hB2)).mono ?_; rintro e w3 ⟨rfl, hb3⟩; have HI3 : Hid (IntsAt w3 sa [0, 2, 1]) := HI2.out.below hb3)
    | (go_at_call 20; refine (EQ.out sa cap _ _ (HI3.out.below (two_below _ _ _)) (by go_simp) (by go_simp) (by go_simp)).mono ?_; rintro e w4 ⟨rfl, hb4⟩))
  go_ret
  refine ⟨rfl, ?_⟩
  have h1 : Below w.heap.size w w2 := hb1.trans (hB2.mono hb1.size)
  have h2 := h1.trans (hb3.mono h1.size)
  exact ((h2.alloc h2.size _).alloc (by simp; have := h2.size; omega) _).trans (hb4.mono (by simp; have := h2.size; omega))
end Go.Proofs.Ytjlapfgghljidab

namespace Go.Proofs.Ytjlapfgghljidab
open Go.ChangeShapes Go.WideShapes Go.ChangeAt Go.RowKit
set_option linter.unusedVariables false

variable {H : Type} {enc : TypeId × Value → H} {w : World} {base : Nat} {spare : Nat → Bool} {held : Bool}

set_option maxRecDepth 100000 in
theorem cells3 : Try.prog.cellsOf 3 = 1 := by kernel_rfl
set_option maxRecDepth 100000 in
theorem cells4 : Try.prog.cellsOf 4 = 1 := by kernel_rfl
set_option maxRecDepth 100000 in
theorem cells32 : Try.prog.cellsOf 27 = 1 := by kernel_rfl
set_option maxRecDepth 100000 in
theorem cells36 : Try.prog.cellsOf 35 = 8 := by kernel_rfl
set_option maxRecDepth 100000 in
theorem cells24 : Try.prog.cellsOf 24 = 1 := by kernel_rfl
set_option maxRecDepth 100000 in
theorem cells22 : Try.prog.cellsOf 22 = 1 := by kernel_rfl

set_option maxRecDepth 100000 in
theorem open_kids {fuel : Nat} {cs : List Value} {x : DataW H × List MemPlace} (h : DataW.trod enc Try.prog w base spare held fuel 27 cs = some x) :
    ∃ ka kc, ∃ ks : List Int, cs = [.slice ka ks.length kc] ∧ ks.length ≤ 9223372036854775807 ∧ IntsAt w ka ks := by
  rcases open_ints Try.underlying27 Try.underlying3 cells3 h with ⟨rfl, _⟩ | ⟨a, len, cap, zs, rfl, _, hl, hm, hz, _, hcell, _⟩
  · exact ⟨none, 0, [], rfl, by simp, fun i hi => absurd hi (Nat.not_lt_zero _)⟩
  · have hlz : len ≤ zs.length := by rw [hz]; split <;> omega
    have htl : (zs.take len).length = len := by rw [List.length_take]; omega
    refine ⟨some a, cap, zs.take len, by rw [htl], by rw [htl]; unfold maxLen at hm; omega, fun i hi => ?_⟩
    rw [htl] at hi
    obtain ⟨b, off, rfl, hc⟩ := ints_at hcell (by omega)
    refine ⟨b, off, rfl, ?_⟩
    rw [hc i (by omega), getD_elem zs 0 (by omega), getD_elem (zs.take len) 0 (by omega), List.getElem_take]

set_option maxRecDepth 100000 in
theorem open_node {fuel b o : Nat} {cs : List Value} {x : DataW H × List MemPlace} (h : DataW.trod enc Try.prog w base spare held fuel 35 cs = some x) (hc : ∀ j, j < 8 → w.cell? ⟨b, o + j, none⟩ = cs[j]?) :
    ∃ nd : Nd, NdAt w b o nd ∧ nd.ks.length ≤ 9223372036854775807 := by
  obtain ⟨xs, n, _, _, hl, hxl, hf⟩ := DataW.trod_struct Try.underlying35 h
  rw [cells36] at hl
  match cs, hl with
  | [a0, a1, a2, a3, a4, a5, a6, a7], _ =>
    match xs, hxl with
    | [x0, x1, x2, x3, x4, x5, x6, x7], _ =>
      have g0 := hf 0 _ rfl
      have g1 := hf 1 _ rfl
      have g2 := hf 2 _ rfl
      have g3 := hf 3 _ rfl
      have g4 := hf 4 _ rfl
      have g5 := hf 5 _ rfl
      have g6 := hf 6 _ rfl
      have g7 := hf 7 _ rfl
      obtain ⟨u, e0, _⟩ := DataW.trod_bool Try.underlying4 g0
      obtain ⟨n1, e1, _⟩ := DataW.trod_int Try.underlying3 g1
      obtain ⟨n2, e2, _⟩ := DataW.trod_int Try.underlying3 g2
      obtain ⟨n3, e3, _⟩ := DataW.trod_int Try.underlying3 g3
      obtain ⟨n4, e4, _⟩ := DataW.trod_int Try.underlying3 g4
      obtain ⟨ka, kc, ks, e5, hks, hI⟩ := open_kids g5
      obtain ⟨n6, e6, _⟩ := DataW.trod_int Try.underlying3 g6
      obtain ⟨u7, e7, _⟩ := DataW.trod_bool Try.underlying4 g7
      cases e0; cases e1; cases e2; cases e3; cases e4; cases e5; cases e6; cases e7
      refine ⟨⟨u, n1, n2, n3, n4, ks, n6, u7⟩, ⟨?_, ?_, ?_, ?_, ?_, ⟨ka, kc, ?_, hI⟩, ?_, ?_⟩, hks⟩
      · exact hc 0 (by omega)
      · exact hc 1 (by omega)
      · exact hc 2 (by omega)
      · exact hc 3 (by omega)
      · exact hc 4 (by omega)
      · exact hc 5 (by omega)
      · exact hc 6 (by omega)
      · exact hc 7 (by omega)

set_option maxRecDepth 100000 in
theorem list_of (len : Nat) (P : Nat → Nd → Prop) (h : ∀ i, i < len → ∃ x, P i x) : ∃ S : List Nd, S.length = len ∧ ∀ i, i < len → P i (nd S i) := by
  induction len with
  | zero => exact ⟨[], rfl, fun i hi => absurd hi (Nat.not_lt_zero _)⟩
  | succ n ih =>
    obtain ⟨S, hl, hS⟩ := ih (fun i hi => h i (by omega))
    obtain ⟨x, hx⟩ := h n (by omega)
    refine ⟨S ++ [x], by simp [hl], fun i hi => ?_⟩
    by_cases e : i = n
    · subst e
      rw [nd_elem (by simp [hl])]
      simpa [hl] using hx
    · have hi' : i < S.length := by omega
      have := hS i (by omega)
      rw [nd_elem hi'] at this
      rw [nd_elem (by simp; omega), List.getElem_append_left hi']
      exact this

set_option maxRecDepth 100000 in
theorem open_nodes {fuel : Nat} {cs : List Value} {x : DataW H × List MemPlace} (h : DataW.trod enc Try.prog w base spare held fuel 22 cs = some x) :
    ∃ a c, ∃ S : List Nd, cs = [.slice a S.length c] ∧ S.length ≤ 9223372036854775807 ∧ Big S ∧ NdsAt w a S := by
  rcases Go.Deep.open_slice Try.underlying22 h with ⟨rfl, _⟩ | ⟨a, len, cap, m, n, D, Pl, rfl, _, hl, hm, hmm, _, hx⟩
  · exact ⟨none, 0, [], rfl, by simp, fun i hi => absurd hi (Nat.not_lt_zero _), fun i hi => absurd hi (Nat.not_lt_zero _)⟩
  · have hlm : len ≤ m := by rw [hmm]; split <;> omega
    obtain ⟨ab, ao, spot⟩ := a
    by_cases h0 : len = 0
    · subst h0
      exact ⟨_, cap, [], rfl, by simp, fun i hi => absurd hi (Nat.not_lt_zero _), fun i hi => absurd hi (Nat.not_lt_zero _)⟩
    · have hsp : spot = none := by
        obtain ⟨cs', hc, ht⟩ := hx 0 (by omega)
        rw [cells36] at hc
        obtain ⟨_, hl8, hce⟩ := World.cells?_some hc
        have h1 := hce 0 (by omega)
        rw [List.getElem?_eq_getElem (by omega)] at h1
        simpa [Addr.add] using World.cell?_spot h1
      subst hsp
      obtain ⟨S, hS1, hS2⟩ := list_of len (fun i x => NdAt w ab (ao + i * 8) x ∧ x.ks.length ≤ 9223372036854775807) (fun i hi => by
        obtain ⟨cs', hc, ht⟩ := hx i (by omega)
        rw [cells36] at hc
        obtain ⟨_, hl8, hce⟩ := World.cells?_some hc
        refine open_node ht (fun j hj => ?_)
        have h1 := hce j hj
        rwa [add_plain, add_plain] at h1)
      exact ⟨some ⟨ab, ao, none⟩, cap, S, by rw [hS1], by rw [hS1]; unfold maxLen at hm; omega, fun i hi => (hS2 i (by omega)).2, fun i hi => ⟨ab, ao, rfl, (hS2 i (by omega)).1⟩⟩

set_option maxRecDepth 100000 in
theorem open_store {r : Reach} {b0 : Nat} {v : Value} {d : DataW H} {p : List MemPlace} (hv : Value.okWide Try.prog w r b0 24 v) (h : DataW.Trod enc Try.prog w base spare held 24 v d p) :
    ∃ a c, ∃ S : List Nd, v = .agg #[.slice a S.length c] ∧ S.length ≤ 9223372036854775807 ∧ Big S ∧ NdsAt w a S := by
  obtain ⟨cs, rfl, hsz⟩ := okWide_struct Try.underlying24 hv
  rw [cells24] at hsz
  obtain ⟨c0, rfl⟩ : ∃ c0, cs = #[c0] := by
    obtain ⟨l⟩ := cs
    match l, hsz with
    | [c0], _ => exact ⟨c0, rfl⟩
  obtain ⟨fuel, hf⟩ := h
  obtain ⟨y0, n, _, _, h0⟩ := trod_struct1 Try.underlying24 hf
  obtain ⟨a, c, S, e, h1, h2, h3⟩ := open_nodes h0
  cases e
  exact ⟨a, c, S, rfl, h1, h2, h3⟩

set_option maxRecDepth 100000 in
theorem open_hand {r : Reach} {b0 : Nat} {v : Value} {d : DataW H} {p : List MemPlace} (hv : Value.okWide Try.prog w r b0 26 v) (h : DataW.Trod enc Try.prog w base spare held 26 v d p) :
    ∃ x y : Int, v = .agg #[.int .i64 x, .int .i64 y] := by
  obtain ⟨v0, v1, y0, y1, n, rfl, _, _, h0, h1⟩ := Go.Joins.open_agg2 Try.underlying26 (by kernel_rfl) (by kernel_rfl) hv h
  obtain ⟨x, e0, _⟩ := DataW.trod_int Try.underlying3 h0
  obtain ⟨y, e1, _⟩ := DataW.trod_int Try.underlying3 h1
  cases e0
  cases e1
  exact ⟨x, y, rfl⟩
end Go.Proofs.Ytjlapfgghljidab
