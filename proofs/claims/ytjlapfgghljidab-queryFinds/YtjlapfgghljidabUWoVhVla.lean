/-
  A row of hands opened; what a check that says nothing says.
-/
import Derived.Test.YtjlapfgghljidabUToTp
import Derived.Test.YtjlapfgghljidabUSoTmSr
import Derived.Test.YtjlapfgghljidabUVg
import Derived.Test.YtjlapfgghljidabUVeVf
namespace Go.Proofs.Ytjlapfgghljidab
open Go.ChangeShapes Go.WideShapes Go.ChangeAt Go.RowKit

set_option maxRecDepth 100000 in
theorem cellsHand : Try.prog.cellsOf 26 = 2 := by kernel_rfl

theorem hands_of (len : Nat) (P : Nat → Int × Int → Prop) (h : ∀ i, i < len → ∃ x, P i x) : ∃ S : List (Int × Int), S.length = len ∧ ∀ i, i < len → P i (S.getD i (0, 0)) := by
  induction len with
  | zero => exact ⟨[], rfl, fun i hi => absurd hi (Nat.not_lt_zero _)⟩
  | succ n ih =>
    obtain ⟨S, hl, hS⟩ := ih (fun i hi => h i (by omega))
    obtain ⟨x, hx⟩ := h n (by omega)
    refine ⟨S ++ [x], by simp [hl], fun i hi => ?_⟩
    by_cases e : i = n
    · subst e
      rw [getD_elem _ _ (by simp [hl])]
      simpa [hl] using hx
    · have hi' : i < S.length := by omega
      have := hS i (by omega)
      rw [getD_elem _ _ hi'] at this
      rw [getD_elem _ _ (by simp; omega), List.getElem_append_left hi']
      exact this

variable {H : Type} {enc : TypeId × Value → H} {w : World} {base : Nat} {spare : Nat → Bool} {held : Bool}

set_option maxRecDepth 100000 in
theorem open_hands {r : Reach} {b0 : Nat} {v : Value} {d : DataW H} {p : List MemPlace} (hv : Value.okWide Try.prog w r b0 83 v) (h : DataW.Trod enc Try.prog w base spare held 83 v d p) :
    ∃ a c, ∃ hs : List (Int × Int), v = .slice a hs.length c ∧ hs.length ≤ 9223372036854775807 ∧ HandsAt w a hs := by
  obtain ⟨a0, len0, cap0, rfl⟩ := okWide_slice Try.underlying83 hv
  obtain ⟨fuel, hf⟩ := h
  rcases Go.Deep.open_slice Try.underlying83 hf with ⟨e, _⟩ | ⟨a, len, cap, m, n, D, Pl, e, _, hl, hm, hmm, _, hx⟩
  · simp [Value.cells] at e
    obtain ⟨rfl, rfl, rfl⟩ := e
    exact ⟨none, 0, [], rfl, by simp, fun i hi => absurd hi (Nat.not_lt_zero _)⟩
  · simp [Value.cells] at e
    obtain ⟨rfl, rfl, rfl⟩ := e
    have hlm : len0 ≤ m := by rw [hmm]; split <;> omega
    obtain ⟨ab, ao, spot⟩ := a
    by_cases h0 : len0 = 0
    · subst h0
      exact ⟨_, cap0, [], rfl, by simp, fun i hi => absurd hi (Nat.not_lt_zero _)⟩
    · have hsp : spot = none := by
        obtain ⟨cs', hc, ht⟩ := hx 0 (by omega)
        rw [cellsHand] at hc
        obtain ⟨_, hl8, hce⟩ := World.cells?_some hc
        have h1 := hce 0 (by omega)
        rw [List.getElem?_eq_getElem (by omega)] at h1
        simpa [Addr.add] using World.cell?_spot h1
      subst hsp
      obtain ⟨S, hS1, hS2⟩ := hands_of len0 (fun i x => w.cell? ⟨ab, ao + i * 2, none⟩ = some (.int .i64 x.1) ∧ w.cell? ⟨ab, ao + i * 2 + 1, none⟩ = some (.int .i64 x.2)) (fun i hi => by
        obtain ⟨cs', hc, ht⟩ := hx i (by omega)
        rw [cellsHand] at hc
        obtain ⟨_, hl2, hce⟩ := World.cells?_some hc
        obtain ⟨xs, n', _, _, hl', hxl, hf'⟩ := DataW.trod_struct Try.underlying26 ht
        match cs', hl2 with
        | [a0, a1], _ =>
          match xs, hxl with
          | [x0, x1], _ =>
            have g0 := hf' 0 _ rfl
            have g1 := hf' 1 _ rfl
            obtain ⟨n0, e0, _⟩ := DataW.trod_int Try.underlying3 g0
            obtain ⟨n1, e1, _⟩ := DataW.trod_int Try.underlying3 g1
            cases e0; cases e1
            refine ⟨(n0, n1), ?_, ?_⟩
            · have h1 := hce 0 (by omega)
              rwa [add_plain, add_plain] at h1
            · have h1 := hce 1 (by omega)
              rwa [add_plain, add_plain] at h1)
      exact ⟨some ⟨ab, ao, none⟩, cap0, S, by rw [hS1], by rw [hS1]; unfold maxLen at hm; omega, fun i hi => ⟨ab, ao, rfl, (hS2 i (by omega)).1, (hS2 i (by omega)).2⟩⟩

theorem tcheck_wf {S : List Nd} {hs : List (Int × Int)} (h : tcheckE S hs = 0) : WF S ∧ ∀ x ∈ hs, ∃ k : Nat, x.1 = k ∧ k < S.length ∧ (nd S k).u = true ∧ (nd S k).n = x.2 := by
  unfold tcheckE at h
  split at h
  · rename_i hw
    refine ⟨(wf_iff S).1 hw, ?_⟩
    induction hs with
    | nil => intro x hx; cases hx
    | cons y r ih =>
      unfold handsE at h
      split at h
      · rename_i h0
        intro x hx
        rcases List.mem_cons.1 hx with rfl | hx
        · exact holds_zero h0
        · exact ih h x hx
      · exact absurd h (by assumption)
  · exact absurd h (by assumption)

end Go.Proofs.Ytjlapfgghljidab

namespace Go.Proofs.Ytjlapfgghljidab
open Go.RowKit

def SoughtOk : Prop := ∀ w : World, Calls Try.prog 17 #[] w fun e w' => e = .returned (.bool true) ∧ Below w.heap.size w w'

def qA : List Tst := [⟨0, -1000001, false⟩, ⟨2, 0, true⟩]
def qB : List Tst := [⟨-1000001, 0, false⟩]
def qC : List Tst := [⟨-1000001, 0, false⟩, ⟨0, 0, false⟩]
theorem s5_wf : WF S5 := (wf_iff S5).1 (by decide)
theorem qA_ok : qcheckE qA = 0 := by decide
theorem qB_ok : qcheckE qB = 0 := by decide
theorem qC_ok : qcheckE qC = 0 := by decide
theorem qA_found : foundF S5 0 qA = [2] := by decide
theorem qB_so : isSoF S5 ((0 : Nat) : Int) qB = true := by decide
theorem qC_so : isSoF S5 ((0 : Nat) : Int) qC = false := by decide

theorem tests_one {W : World} {b : Nat} {t0 m0 : Int} {n0 : Bool} (c0 : W.cell? ⟨b, 0, none⟩ = some (.int .i64 t0)) (c1 : W.cell? ⟨b, 1, none⟩ = some (.int .i64 m0)) (c2 : W.cell? ⟨b, 2, none⟩ = some (.bool n0)) : TestsAt W (some ⟨b, 0, none⟩) [⟨t0, m0, n0⟩] := fun i hi => by
  have : i = 0 := by simpa using hi
  subst this
  exact ⟨b, 0, rfl, by simpa [tst] using c0, by simpa [tst] using c1, by simpa [tst] using c2⟩

theorem tests_two {W : World} {b : Nat} {t0 m0 t1 m1 : Int} {n0 n1 : Bool} (c0 : W.cell? ⟨b, 0, none⟩ = some (.int .i64 t0)) (c1 : W.cell? ⟨b, 1, none⟩ = some (.int .i64 m0)) (c2 : W.cell? ⟨b, 2, none⟩ = some (.bool n0)) (c3 : W.cell? ⟨b, 3, none⟩ = some (.int .i64 t1)) (c4 : W.cell? ⟨b, 4, none⟩ = some (.int .i64 m1)) (c5 : W.cell? ⟨b, 5, none⟩ = some (.bool n1)) : TestsAt W (some ⟨b, 0, none⟩) [⟨t0, m0, n0⟩, ⟨t1, m1, n1⟩] := fun i hi => by
  match i, hi with
  | 0, _ => exact ⟨b, 0, rfl, by simpa [tst] using c0, by simpa [tst] using c1, by simpa [tst] using c2⟩
  | 1, _ => exact ⟨b, 0, rfl, by simpa [tst] using c3, by simpa [tst] using c4, by simpa [tst] using c5⟩

theorem s5_find : findE S5 ((0 : Nat) : Int) 1 = 0 := by decide

set_option maxRecDepth 100000 in
set_option maxHeartbeats 2000000 in
theorem sought_ok : SoughtOk := by
  intro w
  have FA : Hid (∀ W, Calls _ _ _ _ _) := fun W => family_any W
  have QA : Hid (∀ (g b : Nat) (W : World), NdsAt W (some ⟨g, 0, none⟩) S5 → TestsAt W (some ⟨b, 0, none⟩) qA → Calls Try.prog 14 #[.agg #[.slice (some ⟨g, 0, none⟩) 6 6], .agg #[.int .i64 0, .int .i64 1], .slice (some ⟨b, 0, none⟩) 2 2] W fun e w' => ∃ sa cap, e = .returned (.tuple #[.slice sa 1 cap, .int .i64 0]) ∧ Below W.heap.size W w' ∧ IntsAt w' sa [2]) := fun g b W h1 h2 => by
    have h := qfind_ok (some ⟨g, 0, none⟩) 6 S5 0 1 (some ⟨b, 0, none⟩) 2 qA W s5_wf (by decide) (by decide) s5_check h1 h2 qA_ok
    rw [qA_found] at h
    exact Calls.mono h (fun e w' ⟨sa, cap, h1, h2, h3, _⟩ => ⟨sa, cap, h1, h2, h3⟩)
  have QB : Hid (∀ (g b : Nat) (W : World), NdsAt W (some ⟨g, 0, none⟩) S5 → TestsAt W (some ⟨b, 0, none⟩) qB → Calls Try.prog 13 #[.agg #[.slice (some ⟨g, 0, none⟩) 6 6], .agg #[.int .i64 0, .int .i64 1], .slice (some ⟨b, 0, none⟩) 1 1] W fun e w' => e = .returned (.tuple #[.bool true, .int .i64 0]) ∧ Below W.heap.size W w') := fun g b W h1 h2 => by
    have h := fits_ok (some ⟨g, 0, none⟩) 6 S5 0 1 (some ⟨b, 0, none⟩) 1 qB W s5_wf (by decide) s5_find h1 h2 qB_ok
    rw [qB_so] at h
    exact h
  have QC : Hid (∀ (g b : Nat) (W : World), NdsAt W (some ⟨g, 0, none⟩) S5 → TestsAt W (some ⟨b, 0, none⟩) qC → Calls Try.prog 13 #[.agg #[.slice (some ⟨g, 0, none⟩) 6 6], .agg #[.int .i64 0, .int .i64 1], .slice (some ⟨b, 0, none⟩) 2 2] W fun e w' => e = .returned (.tuple #[.bool false, .int .i64 0]) ∧ Below W.heap.size W w') := fun g b W h1 h2 => by
    have h := fits_ok (some ⟨g, 0, none⟩) 6 S5 0 1 (some ⟨b, 0, none⟩) 2 qC W s5_wf (by decide) s5_find h1 h2 qC_ok
    rw [qC_so] at h
    exact h
  have EQ : Hid (∀ (sa : Option Addr) (cap vb : Nat) (W : World), IntsAt W sa [2] → W.cell? ⟨vb, 0, none⟩ = some (.int .i64 2) → Calls Try.prog 20 #[.slice sa 1 cap, .slice (some ⟨vb, 0, none⟩) 1 1] W fun e w' => e = .returned (.bool true) ∧ Below W.heap.size W w') := fun sa cap vb W h1 c0 => by
    have h := equal_any sa (some ⟨vb, 0, none⟩) cap 1 [2] [2] W (by decide) h1 (fun i hi => by
      have : i = 0 := by simpa using hi
      subst this
      exact ⟨vb, 0, rfl, by simpa using c0⟩)
    rw [decide_eq_true rfl] at h
    exact h
  go_enter Try.func17, Try.ntmps17
  go_wp2_with fail
  refine (FA.out _).mono ?_
  rintro e w1 ⟨g, rfl, hb1, hS1⟩
  have HS1 : Hid (NdsAt w1 (some ⟨g, 0, none⟩) S5) := hS1
  have HB1 : Hid (Below w.heap.size w w1) := hb1
  clear hS1 hb1
  go_wp2_with fail
  refine (QA.out g _ _ (HS1.out.below (three_below _ _ _ _)) (tests_two (by go_simp) (by go_simp) (by go_simp) (by go_simp) (by go_simp) (by go_simp))).mono ?_
  rintro e w2 ⟨sa, cap, rfl, hb2, hI2⟩
  simp only [World.size_alloc] at hb2
  have HL2 : Hid (Below (w1.heap.size + 1 + 1) ((w1.alloc (.cells #[.slice (some ⟨g, 0, none⟩) 6 6] 24)).alloc (.cells #[.int .i64 0, .int .i64 1, .int .i64 1, .int .i64 1, .int .i64 2, .int .i64 1] 64)) w2) := ((Below.refl _ _).alloc (by simp) _).trans (hb2.mono (by omega))
  obtain ⟨l0, l1, l2, l3, l4⟩ := grown_low HL2.out
  have hB2 : Below w1.heap.size w1 w2 := (three_below _ _ _ _).trans (hb2.mono (by omega))
  have HI2 : Hid (IntsAt w2 sa [2]) := hI2
  have HB2 : Hid (Below w1.heap.size w1 w2) := hB2
  have hl0 := World.block_lt_of_cell? _ _ l0
  have hl1 := World.block_lt_of_cell? _ _ l1
  clear hb2 hI2 hB2
  go_wp2_with fail
  refine (QB.out g _ _ (HS1.out.below (HB2.out.alloc HB2.out.size _)) (tests_one (by go_simp) (by go_simp) (by go_simp))).mono ?_
  rintro e w3 ⟨rfl, hb3⟩
  simp only [World.size_alloc] at hb3
  have hb23 : Below w2.heap.size w2 w3 := ((Below.refl _ _).alloc (Nat.le_refl _) _).trans (hb3.mono (by omega))
  have HB3 : Hid (Below w1.heap.size w1 w3) := HB2.out.trans (hb23.mono HB2.out.size)
  have HI3 : Hid (IntsAt w3 sa [2]) := HI2.out.below hb23
  have HL3 : Hid (Below (w1.heap.size + 1 + 1) ((w1.alloc (.cells #[.slice (some ⟨g, 0, none⟩) 6 6] 24)).alloc (.cells #[.int .i64 0, .int .i64 1, .int .i64 1, .int .i64 1, .int .i64 2, .int .i64 1] 64)) w3) := HL2.out.trans (hb23.mono (by have := HL2.out.size; simp at this; omega))
  clear l0 l1 l2 l3 l4 hl0 hl1 hb3 hb23
  obtain ⟨l0, l1, l2, l3, l4⟩ := grown_low HL3.out
  have hl0 := World.block_lt_of_cell? _ _ l0
  have hl1 := World.block_lt_of_cell? _ _ l1
  go_wp2_with fail
  refine (QC.out g _ _ (HS1.out.below (HB3.out.alloc HB3.out.size _)) (tests_two (by go_simp) (by go_simp) (by go_simp) (by go_simp) (by go_simp) (by go_simp))).mono ?_
  rintro e w4 ⟨rfl, hb4⟩
  simp only [World.size_alloc] at hb4
  have hb34 : Below w3.heap.size w3 w4 := ((Below.refl _ _).alloc (Nat.le_refl _) _).trans (hb4.mono (by omega))
  have HB4 : Hid (Below w1.heap.size w1 w4) := HB3.out.trans (hb34.mono HB3.out.size)
  have HI4 : Hid (IntsAt w4 sa [2]) := HI3.out.below hb34
  have HE : Hid (Below w.heap.size w w4) := HB1.out.trans (HB4.out.mono HB1.out.size)
  have X4 : Hid (∀ o1, Below w4.heap.size w4 (w4.alloc o1)) := fun o1 => (Below.refl _ _).alloc (Nat.le_refl _) o1
  clear l0 l1 l2 l3 l4 hl0 hl1 hb4 hb34
  go_wp2_with (go_at_call 20; refine (EQ.out sa cap _ _ (HI4.out.below (X4.out _)) (by go_simp)).mono ?_; rintro e w5 ⟨rfl, hb5⟩; have HF : Hid (Below w.heap.size w w5) := (HE.out.trans ((X4.out _).mono HE.out.size)).trans (hb5.mono (by simp; have := HE.out.size; omega)); clear hb5)
  go_ret
  exact ⟨rfl, HF.out⟩
end Go.Proofs.Ytjlapfgghljidab

namespace Go.Proofs.Ytjlapfgghljidab
open Go.ChangeShapes Go.WideShapes Go.ChangeAt Go.RowKit

set_option maxRecDepth 100000 in
theorem cellsTest : Try.prog.cellsOf 45 = 3 := by kernel_rfl

theorem tests_of (len : Nat) (P : Nat → Tst → Prop) (h : ∀ i, i < len → ∃ x, P i x) : ∃ S : List Tst, S.length = len ∧ ∀ i, i < len → P i (tst S i) := by
  induction len with
  | zero => exact ⟨[], rfl, fun i hi => absurd hi (Nat.not_lt_zero _)⟩
  | succ n ih =>
    obtain ⟨S, hl, hS⟩ := ih (fun i hi => h i (by omega))
    obtain ⟨x, hx⟩ := h n (by omega)
    refine ⟨S ++ [x], by simp [hl], fun i hi => ?_⟩
    unfold tst
    by_cases e : i = n
    · subst e
      rw [getD_elem _ _ (by simp [hl])]
      simpa [hl] using hx
    · have hi' : i < S.length := by omega
      have := hS i (by omega)
      unfold tst at this
      rw [getD_elem _ _ hi'] at this
      rw [getD_elem _ _ (by simp; omega), List.getElem_append_left hi']
      exact this

variable {H : Type} {enc : TypeId × Value → H} {w : World} {base : Nat} {spare : Nat → Bool} {held : Bool}

set_option maxRecDepth 100000 in
theorem open_tests {r : Reach} {b0 : Nat} {v : Value} {d : DataW H} {p : List MemPlace} (hv : Value.okWide Try.prog w r b0 37 v) (h : DataW.Trod enc Try.prog w base spare held 37 v d p) :
    ∃ a c, ∃ q : List Tst, v = .slice a q.length c ∧ q.length ≤ 9223372036854775807 ∧ TestsAt w a q := by
  obtain ⟨a0, len0, cap0, rfl⟩ := okWide_slice Try.underlying37 hv
  obtain ⟨fuel, hf⟩ := h
  rcases Go.Deep.open_slice Try.underlying37 hf with ⟨e, _⟩ | ⟨a, len, cap, m, n, D, Pl, e, _, hl, hm, hmm, _, hx⟩
  · simp [Value.cells] at e
    obtain ⟨rfl, rfl, rfl⟩ := e
    exact ⟨none, 0, [], rfl, by simp, fun i hi => absurd hi (Nat.not_lt_zero _)⟩
  · simp [Value.cells] at e
    obtain ⟨rfl, rfl, rfl⟩ := e
    have hlm : len0 ≤ m := by rw [hmm]; split <;> omega
    obtain ⟨ab, ao, spot⟩ := a
    by_cases h0 : len0 = 0
    · subst h0
      exact ⟨_, cap0, [], rfl, by simp, fun i hi => absurd hi (Nat.not_lt_zero _)⟩
    · have hsp : spot = none := by
        obtain ⟨cs', hc, ht⟩ := hx 0 (by omega)
        rw [cellsTest] at hc
        obtain ⟨_, hl8, hce⟩ := World.cells?_some hc
        have h1 := hce 0 (by omega)
        rw [List.getElem?_eq_getElem (by omega)] at h1
        simpa [Addr.add] using World.cell?_spot h1
      subst hsp
      obtain ⟨S, hS1, hS2⟩ := tests_of len0 (fun i x => w.cell? ⟨ab, ao + i * 3, none⟩ = some (.int .i64 x.t) ∧ w.cell? ⟨ab, ao + i * 3 + 1, none⟩ = some (.int .i64 x.m) ∧ w.cell? ⟨ab, ao + i * 3 + 2, none⟩ = some (.bool x.near)) (fun i hi => by
        obtain ⟨cs', hc, ht⟩ := hx i (by omega)
        rw [cellsTest] at hc
        obtain ⟨_, hl2, hce⟩ := World.cells?_some hc
        obtain ⟨xs, n', _, _, hl', hxl, hf'⟩ := DataW.trod_struct Try.underlying45 ht
        match cs', hl2 with
        | [a0, a1, a2], _ =>
          match xs, hxl with
          | [x0, x1, x2], _ =>
            have g0 := hf' 0 _ rfl
            have g1 := hf' 1 _ rfl
            have g2 := hf' 2 _ rfl
            obtain ⟨n0, e0, _⟩ := DataW.trod_int Try.underlying3 g0
            obtain ⟨n1, e1, _⟩ := DataW.trod_int Try.underlying3 g1
            obtain ⟨n2, e2, _⟩ := DataW.trod_bool Try.underlying4 g2
            cases e0; cases e1; cases e2
            refine ⟨⟨n0, n1, n2⟩, ?_, ?_, ?_⟩
            · have h1 := hce 0 (by omega)
              rwa [add_plain, add_plain] at h1
            · have h1 := hce 1 (by omega)
              rwa [add_plain, add_plain] at h1
            · have h1 := hce 2 (by omega)
              rwa [add_plain, add_plain] at h1)
      exact ⟨some ⟨ab, ao, none⟩, cap0, S, by rw [hS1], by rw [hS1]; unfold maxLen at hm; omega, fun i hi => ⟨ab, ao, rfl, (hS2 i (by omega)).1, (hS2 i (by omega)).2.1, (hS2 i (by omega)).2.2⟩⟩

set_option maxRecDepth 100000 in
theorem open_test {r : Reach} {b0 : Nat} {v : Value} {d : DataW H} {p : List MemPlace} (hv : Value.okWide Try.prog w r b0 45 v) (h : DataW.Trod enc Try.prog w base spare held 45 v d p) :
    ∃ (x y : Int) (z : Bool), v = .agg #[.int .i64 x, .int .i64 y, .bool z] := by
  obtain ⟨v0, v1, v2, y0, y1, y2, n, rfl, _, _, h0, h1, h2⟩ := Go.Joins.open_agg3 Try.underlying45 (by kernel_rfl) (by kernel_rfl) hv h
  obtain ⟨x, e0, _⟩ := DataW.trod_int Try.underlying3 h0
  obtain ⟨y, e1, _⟩ := DataW.trod_int Try.underlying3 h1
  obtain ⟨z, e2, _⟩ := DataW.trod_bool Try.underlying4 h2
  cases e0
  cases e1
  cases e2
  exact ⟨x, y, z, rfl⟩

end Go.Proofs.Ytjlapfgghljidab
