/-
  Ports: what is wrong with them, and what becomes of them, as lists.
-/
import Derived.Test.YtgjfmepbphfjoaaUCg
namespace Go.Proofs.Ytgjfmepbphfjoaa
set_option linter.unusedVariables false

structure Pt where
  o : Int
  t : Int
  m : Int
  cm : List (List Cl)
  s : Bool
  deriving DecidableEq

def zeroPt : Pt := ⟨0, 0, 0, [], false⟩
def pt (L : List Pt) (i : Nat) : Pt := L.getD i zeroPt
theorem pt_elem {L : List Pt} {i : Nat} (h : i < L.length) : pt L i = L[i] := getD_elem L zeroPt h
theorem pt_ext {L M : List Pt} (hl : L.length = M.length) (h : ∀ i, i < L.length → pt L i = pt M i) : L = M := by
  apply List.ext_getElem hl
  intro i h1 h2
  have := h i h1
  rwa [pt_elem h1, pt_elem h2] at this
theorem pt_left {L M : List Pt} {i : Nat} (h : i < L.length) : pt (L ++ M) i = pt L i := by
  rw [pt_elem (by simp; omega), pt_elem h, List.getElem_append_left h]
theorem pt_last (L : List Pt) (x : Pt) : pt (L ++ [x]) L.length = x := by
  rw [pt_elem (by simp)]
  simp
theorem pt_set {L : List Pt} {k i : Nat} {x : Pt} (h : i < L.length) : pt (L.set k x) i = if k = i then x else pt L i := by
  rw [pt_elem (by simpa using h), List.getElem_set]
  split
  · rfl
  · rw [pt_elem h]
/-- The graph at a place. -/
def gr (C : List (List Cl)) (i : Nat) : List Cl := C.getD i []
theorem gr_elem {C : List (List Cl)} {i : Nat} (h : i < C.length) : gr C i = C[i] := getD_elem C [] h
theorem gr_ext {C D : List (List Cl)} (hl : C.length = D.length) (h : ∀ i, i < C.length → gr C i = gr D i) : C = D := by
  apply List.ext_getElem hl
  intro i h1 h2
  have := h i h1
  rwa [gr_elem h1, gr_elem h2] at this
theorem gr_left {C D : List (List Cl)} {i : Nat} (h : i < C.length) : gr (C ++ D) i = gr C i := by
  rw [gr_elem (by simp; omega), gr_elem h, List.getElem_append_left h]
theorem gr_last (C : List (List Cl)) (g : List Cl) : gr (C ++ [g]) C.length = g := by
  rw [gr_elem (by simp)]
  simp
theorem gr_drop (C : List (List Cl)) {i : Nat} (h : i + 1 < C.length) : gr (C.drop 1) i = gr C (i + 1) := by
  rw [gr_elem (by simp; omega), gr_elem h]
  simp

/-- What is wrong with the graphs, the first one first. -/
def graphsE : List (List Cl) → Int
  | [] => 0
  | g :: l => if gcheckE g = 0 then graphsE l else gcheckE g
def portE (L : List Pt) (F : Int) (i : Nat) : Int :=
  if ¬ (0 ≤ (pt L i).o ∧ (pt L i).o < F) ∨ ¬ (0 ≤ (pt L i).m ∧ (pt L i).m ≤ (L.length : Int) - 1) then 4
  else if (pt L i).m = i ∨ (pt L (pt L i).m.toNat).m ≠ i then 3
  else if ¬ (0 ≤ (pt L i).t ∧ (pt L i).t ≤ 1000) then 2
  else if 16 < (pt L i).cm.length ∨ (0 < (pt L i).cm.length ∧ (pt L i).s = true) then 1
  else graphsE (pt L i).cm
def pErrN (L : List Pt) (F : Int) : Nat → Nat → Int
  | _, 0 => 0
  | i, n + 1 => if portE L F i = 0 then pErrN L F (i + 1) n else portE L F i
def pErr (L : List Pt) (F : Int) (i : Nat) : Int := pErrN L F i (L.length - i)
def pcheckE (L : List Pt) (F : Int) : Int := if 12 < L.length then 1 else pErr L F 0
theorem pErr_step {L : List Pt} {F : Int} {i : Nat} (h : i < L.length) : pErr L F i = if portE L F i = 0 then pErr L F (i + 1) else portE L F i := by
  unfold pErr
  obtain ⟨n, hn⟩ : ∃ n, L.length - i = n + 1 := ⟨L.length - i - 1, by omega⟩
  rw [hn, pErrN, show L.length - (i + 1) = n by omega]
theorem pErr_end {L : List Pt} {F : Int} {i : Nat} (h : L.length ≤ i) : pErr L F i = 0 := by
  unfold pErr
  rw [show L.length - i = 0 by omega, pErrN]

/-- Right ports. -/
structure RightP (L : List Pt) (F : Int) : Prop where
  few : L.length ≤ 12
  ok : ∀ i, i < L.length → portE L F i = 0
theorem pErrN_zero {L : List Pt} {F : Int} : ∀ n i, pErrN L F i n = 0 ↔ ∀ j, i ≤ j → j < i + n → portE L F j = 0
  | 0, i => by simp [pErrN]; omega
  | n + 1, i => by
    rw [pErrN]
    by_cases h : portE L F i = 0
    · rw [if_pos h, pErrN_zero n (i + 1)]
      constructor
      · intro H j h1 h2
        by_cases e : j = i
        · rw [e]; exact h
        · exact H j (by omega) (by omega)
      · intro H j h1 h2
        exact H j (by omega) (by omega)
    · rw [if_neg h]
      constructor
      · intro H; exact absurd H h
      · intro H; exact H i (Nat.le_refl _) (by omega)
theorem pcheck_zero {L : List Pt} {F : Int} : pcheckE L F = 0 ↔ RightP L F := by
  unfold pcheckE pErr
  by_cases h : 12 < L.length
  · rw [if_pos h]
    exact ⟨fun e => by omega, fun R => absurd R.few (by omega)⟩
  · rw [if_neg h, pErrN_zero]
    exact ⟨fun H => ⟨by omega, fun i hi => H i (by omega) (by omega)⟩, fun R j _ hj => R.ok j (by omega)⟩
theorem graphs_zero : ∀ {C : List (List Cl)}, graphsE C = 0 ↔ ∀ i, i < C.length → Right (gr C i)
  | [] => by simp [graphsE]
  | g :: l => by
    rw [graphsE]
    by_cases h : gcheckE g = 0
    · rw [if_pos h, graphs_zero]
      constructor
      · intro H i hi
        cases i with
        | zero => exact gcheck_zero.1 h
        | succ i => exact H i (by simpa using hi)
      · intro H i hi
        exact H (i + 1) (by simpa using hi)
    · rw [if_neg h]
      constructor
      · intro H; exact absurd H h
      · intro H; exact gcheck_zero.2 (H 0 (by simp))
theorem portE_zero {L : List Pt} {F : Int} {i : Nat} : portE L F i = 0 ↔ (0 ≤ (pt L i).o ∧ (pt L i).o < F) ∧ (0 ≤ (pt L i).m ∧ (pt L i).m ≤ (L.length : Int) - 1) ∧ ((pt L i).m ≠ i ∧ (pt L (pt L i).m.toNat).m = i) ∧ (0 ≤ (pt L i).t ∧ (pt L i).t ≤ 1000) ∧ ((pt L i).cm.length ≤ 16 ∧ ((pt L i).s = true → (pt L i).cm.length = 0)) ∧ graphsE (pt L i).cm = 0 := by
  unfold portE
  by_cases h1 : ¬ (0 ≤ (pt L i).o ∧ (pt L i).o < F) ∨ ¬ (0 ≤ (pt L i).m ∧ (pt L i).m ≤ (L.length : Int) - 1)
  · rw [if_pos h1]
    exact ⟨fun e => by omega, fun ⟨a, b, _⟩ => by rcases h1 with h | h; exact absurd a h; exact absurd b h⟩
  · rw [if_neg h1]
    have h1a : 0 ≤ (pt L i).o ∧ (pt L i).o < F := Classical.byContradiction fun h => h1 (Or.inl h)
    have h1b : 0 ≤ (pt L i).m ∧ (pt L i).m ≤ (L.length : Int) - 1 := Classical.byContradiction fun h => h1 (Or.inr h)
    by_cases h2 : (pt L i).m = i ∨ (pt L (pt L i).m.toNat).m ≠ i
    · rw [if_pos h2]
      exact ⟨fun e => by omega, fun ⟨_, _, c, _⟩ => by rcases h2 with h | h; exact absurd h c.1; exact absurd c.2 h⟩
    · rw [if_neg h2]
      have h2a : (pt L i).m ≠ i := fun h => h2 (Or.inl h)
      have h2b : (pt L (pt L i).m.toNat).m = i := Classical.byContradiction fun h => h2 (Or.inr h)
      by_cases h3 : 0 ≤ (pt L i).t ∧ (pt L i).t ≤ 1000
      · rw [if_neg (not_not_intro h3)]
        by_cases h4 : 16 < (pt L i).cm.length ∨ (0 < (pt L i).cm.length ∧ (pt L i).s = true)
        · rw [if_pos h4]
          refine ⟨fun e => by omega, fun ⟨_, _, _, _, e, _⟩ => ?_⟩
          rcases h4 with h | h
          · omega
          · have := e.2 h.2
            omega
        · rw [if_neg h4]
          have h4a : (pt L i).cm.length ≤ 16 := by
            by_cases h : 16 < (pt L i).cm.length
            · exact absurd (Or.inl h) h4
            · omega
          have h4b : (pt L i).s = true → (pt L i).cm.length = 0 := fun hs => by
            by_cases h : 0 < (pt L i).cm.length
            · exact absurd (Or.inr ⟨h, hs⟩) h4
            · omega
          exact ⟨fun e => ⟨h1a, h1b, ⟨h2a, h2b⟩, h3, ⟨h4a, h4b⟩, e⟩, fun h => h.2.2.2.2.2⟩
      · rw [if_pos h3]
        exact ⟨fun e => by omega, fun ⟨_, _, _, d, _⟩ => absurd d h3⟩

/-- Open. -/
def openE (L : List Pt) (F o t : Int) : Int := if pcheckE L F ≠ 0 then pcheckE L F else if ¬ (0 ≤ o ∧ o < F) then 4 else if ¬ (0 ≤ t ∧ t ≤ 1000) then 2 else if 10 < L.length then 1 else 0
def openL (L : List Pt) (o t : Int) : List Pt := L ++ [⟨o, t, (L.length : Int) + 1, [], false⟩, ⟨o, t, (L.length : Int), [], false⟩]
def resO (L : List Pt) (F o t : Int) : List Pt := if openE L F o t = 0 then openL L o t else []
def openN (L : List Pt) (F o t : Int) : Int := if openE L F o t = 0 then (L.length : Int) else 0
/-- What the others say first. -/
def heldPE (L : List Pt) (F k o t : Int) : Int := if pcheckE L F ≠ 0 then pcheckE L F else if ¬ (0 ≤ k ∧ k < (L.length : Int)) then 4 else if (pt L k.toNat).o ≠ o ∨ (pt L k.toNat).t ≠ t then 7 else if (pt L k.toNat).s = true then 5 else 0
/-- Pass. -/
def passE (L : List Pt) (F k o t to' th : Int) : Int := if heldPE L F k o t ≠ 0 then heldPE L F k o t else if ¬ (0 ≤ to' ∧ to' < F) then 4 else if ¬ (0 ≤ th ∧ th ≤ 1000) then 2 else 0
def passL (L : List Pt) (k to' th : Int) : List Pt := L.set k.toNat { pt L k.toNat with o := to', t := th }
def resPass (L : List Pt) (F k o t to' th : Int) : List Pt := if passE L F k o t to' th = 0 then passL L k to' th else []
/-- Push. -/
def mateP (L : List Pt) (k : Int) : Pt := pt L (pt L k.toNat).m.toNat
def pushE (L : List Pt) (F k o t : Int) (g : List Cl) : Int := if heldPE L F k o t ≠ 0 then heldPE L F k o t else if gcheckE g ≠ 0 then gcheckE g else if (mateP L k).s = true then 5 else if (mateP L k).cm.length = 16 then 1 else 0
def pushL (L : List Pt) (k : Int) (g : List Cl) : List Pt := L.set (pt L k.toNat).m.toNat { mateP L k with cm := (mateP L k).cm ++ [copyF g] }
def resPush (L : List Pt) (F k o t : Int) (g : List Cl) : List Pt := if pushE L F k o t g = 0 then pushL L k g else []
/-- Pull. -/
def pullE (L : List Pt) (F k o t : Int) : Int := if heldPE L F k o t ≠ 0 then heldPE L F k o t else if (pt L k.toNat).cm.length = 0 then 8 else 0
def pullL (L : List Pt) (k : Int) : List Pt := L.set k.toNat { pt L k.toNat with cm := (pt L k.toNat).cm.drop 1 }
def resPull (L : List Pt) (F k o t : Int) : List Pt := if pullE L F k o t = 0 then pullL L k else []
def pullG (L : List Pt) (F k o t : Int) : List Cl := if pullE L F k o t = 0 then gr (pt L k.toNat).cm 0 else []
/-- Shut. -/
def shutL (L : List Pt) (k : Int) : List Pt := L.set k.toNat { pt L k.toNat with s := true, cm := [] }
def resShut (L : List Pt) (F k o t : Int) : List Pt := if heldPE L F k o t = 0 then shutL L k else []

theorem heldP_zero {L : List Pt} {F k o t : Int} (h : heldPE L F k o t = 0) : RightP L F ∧ ∃ q : Nat, k = q ∧ q < L.length ∧ (pt L q).o = o ∧ (pt L q).t = t ∧ (pt L q).s = false := by
  unfold heldPE at h
  by_cases h1 : pcheckE L F = 0
  · rw [if_neg (not_not_intro h1)] at h
    by_cases h2 : 0 ≤ k ∧ k < (L.length : Int)
    · rw [if_neg (not_not_intro h2)] at h
      obtain ⟨q, rfl⟩ := Int.eq_ofNat_of_zero_le h2.1
      rw [Int.toNat_natCast] at h
      by_cases h3 : (pt L q).o ≠ o ∨ (pt L q).t ≠ t
      · rw [if_pos h3] at h; cases h
      · rw [if_neg h3] at h
        cases hs : (pt L q).s with
        | true => rw [if_pos hs] at h; cases h
        | false => exact ⟨pcheck_zero.1 h1, q, rfl, by omega, Classical.byContradiction fun e => h3 (Or.inl e), Classical.byContradiction fun e => h3 (Or.inr e), hs⟩
    · rw [if_pos h2] at h; cases h
  · rw [if_pos h1] at h
    exact absurd h h1
theorem RightP.mate {L : List Pt} {F : Int} (R : RightP L F) {i : Nat} (h : i < L.length) : ∃ q : Nat, (pt L i).m = q ∧ q < L.length ∧ q ≠ i ∧ (pt L q).m = i := by
  obtain ⟨_, h2, h3, _⟩ := portE_zero.1 (R.ok i h)
  obtain ⟨q, hq⟩ := Int.eq_ofNat_of_zero_le h2.1
  rw [hq, Int.toNat_natCast] at h3
  exact ⟨q, hq, by omega, fun e => h3.1 (by omega), h3.2⟩
end Go.Proofs.Ytgjfmepbphfjoaa
