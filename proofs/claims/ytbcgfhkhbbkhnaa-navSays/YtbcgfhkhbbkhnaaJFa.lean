/-
  Frames, without the program: what is wrong with them, which one is within which, which are gone, how many are right in one.
-/
import Derived.Test.YtbcgfhkhbbkhnaaJSa
namespace Go.Proofs.Ytbcgfhkhbbkhnaa
set_option linter.unusedVariables false

structure Fr where
  p : Int
  o : Int
  m : Int
  t : Int
  g : Bool
  deriving DecidableEq

def fr (L : List Fr) (i : Nat) : Fr := L.getD i ⟨0, 0, 0, 0, false⟩
theorem fr_elem {L : List Fr} {i : Nat} (h : i < L.length) : fr L i = L[i] := getD_elem L _ h
theorem fr_left {L M : List Fr} {i : Nat} (h : i < L.length) : fr (L ++ M) i = fr L i := by
  rw [fr_elem h, fr_elem (by rw [List.length_append]; omega), List.getElem_append_left h]
theorem fr_last (L : List Fr) (x : Fr) : fr (L ++ [x]) L.length = x := by
  rw [fr_elem (by simp)]
  simp
theorem fr_ext {L M : List Fr} (hl : L.length = M.length) (h : ∀ i, i < L.length → fr L i = fr M i) : L = M := by
  apply List.ext_getElem hl
  intro i h1 h2
  have := h i h1
  rwa [fr_elem h1, fr_elem h2] at this

theorem all8 {P : Int → Prop} (h : ∀ a : Fin 8, P ((a.val : Nat) : Int)) {a : Int} (h0 : 0 ≤ a) (h7 : a ≤ 7) : P a := by
  obtain ⟨n, rfl⟩ := Int.eq_ofNat_of_zero_le h0
  exact h ⟨n, by omega⟩
theorem an_self {a : Int} (h0 : 0 ≤ a) (h7 : a ≤ 7) : bits .andNot .i64 a a = 0 := all8 (P := fun a => bits .andNot .i64 a a = 0) (by decide +kernel) h0 h7
theorem an_trans {a b c : Int} (a0 : 0 ≤ a) (a7 : a ≤ 7) (b0 : 0 ≤ b) (b7 : b ≤ 7) (c0 : 0 ≤ c) (c7 : c ≤ 7) (h1 : bits .andNot .i64 a b = 0) (h2 : bits .andNot .i64 b c = 0) : bits .andNot .i64 a c = 0 := by
  obtain ⟨a, rfl⟩ := Int.eq_ofNat_of_zero_le a0
  obtain ⟨b, rfl⟩ := Int.eq_ofNat_of_zero_le b0
  obtain ⟨c, rfl⟩ := Int.eq_ofNat_of_zero_le c0
  have H : ∀ a b c : Fin 8, bits .andNot .i64 ((a.val : Nat) : Int) ((b.val : Nat) : Int) = 0 → bits .andNot .i64 ((b.val : Nat) : Int) ((c.val : Nat) : Int) = 0 → bits .andNot .i64 ((a.val : Nat) : Int) ((c.val : Nat) : Int) = 0 := by decide +kernel
  exact H ⟨a, by omega⟩ ⟨b, by omega⟩ ⟨c, by omega⟩ h1 h2
theorem two8 {P : Int → Int → Prop} (h : ∀ a b : Fin 8, P ((a.val : Nat) : Int) ((b.val : Nat) : Int)) {a b : Int} (a0 : 0 ≤ a) (a7 : a ≤ 7) (b0 : 0 ≤ b) (b7 : b ≤ 7) : P a b := by
  obtain ⟨a, rfl⟩ := Int.eq_ofNat_of_zero_le a0
  obtain ⟨b, rfl⟩ := Int.eq_ofNat_of_zero_le b0
  exact h ⟨a, by omega⟩ ⟨b, by omega⟩
theorem an_left {a b : Int} (a0 : 0 ≤ a) (a7 : a ≤ 7) (b0 : 0 ≤ b) (b7 : b ≤ 7) : bits .andNot .i64 (bits .and .i64 a b) a = 0 := two8 (P := fun a b => bits .andNot .i64 (bits .and .i64 a b) a = 0) (by decide +kernel) a0 a7 b0 b7
theorem an_right {a b : Int} (a0 : 0 ≤ a) (a7 : a ≤ 7) (b0 : 0 ≤ b) (b7 : b ≤ 7) : bits .andNot .i64 (bits .and .i64 a b) b = 0 := two8 (P := fun a b => bits .andNot .i64 (bits .and .i64 a b) b = 0) (by decide +kernel) a0 a7 b0 b7
theorem and_range {a b : Int} (a0 : 0 ≤ a) (a7 : a ≤ 7) (b0 : 0 ≤ b) (b7 : b ≤ 7) : 0 ≤ bits .and .i64 a b ∧ bits .and .i64 a b ≤ 7 := two8 (P := fun a b => 0 ≤ bits .and .i64 a b ∧ bits .and .i64 a b ≤ 7) (by decide +kernel) a0 a7 b0 b7
theorem or_sub {a b : Int} (a0 : 0 ≤ a) (a7 : a ≤ 7) (b0 : 0 ≤ b) (b7 : b ≤ 7) : bits .or .i64 a b = b ↔ bits .andNot .i64 a b = 0 := two8 (P := fun a b => bits .or .i64 a b = b ↔ bits .andNot .i64 a b = 0) (by decide +kernel) a0 a7 b0 b7
theorem nest_four {a : Int} (h0 : 0 ≤ a) (h7 : a ≤ 7) : bits .and .i64 a 4 = 0 ↔ a < 4 := all8 (P := fun a => bits .and .i64 a 4 = 0 ↔ a < 4) (by decide +kernel) h0 h7
/-- The bits that both have, one by one. -/
def bitF (a b c : Int) : Int := if 0 < bits .and .i64 a c ∧ 0 < bits .and .i64 b c then c else 0
theorem bits_sum {a b : Int} (a0 : 0 ≤ a) (a7 : a ≤ 7) (b0 : 0 ≤ b) (b7 : b ≤ 7) : bitF a b 1 + bitF a b 2 + bitF a b 4 = bits .and .i64 a b := two8 (P := fun a b => bitF a b 1 + bitF a b 2 + bitF a b 4 = bits .and .i64 a b) (by decide +kernel) a0 a7 b0 b7

def whoOk (x : Fr) (k : Nat) : Prop := if k = 0 then x.p = -1 else 0 ≤ x.p ∧ x.p ≤ (k : Int) - 1
def rangeOk (x : Fr) : Prop := (0 ≤ x.o ∧ x.o ≤ 9) ∧ (0 ≤ x.m ∧ x.m ≤ 7) ∧ (0 ≤ x.t ∧ x.t ≤ 1000)
def fitOk (x y : Fr) : Prop := bits .andNot .i64 x.m y.m = 0 ∧ (x.g = true ∨ y.g = false)
instance (x : Fr) (k : Nat) : Decidable (whoOk x k) := by unfold whoOk; infer_instance
instance (x : Fr) : Decidable (rangeOk x) := by unfold rangeOk; infer_instance
instance (x y : Fr) : Decidable (fitOk x y) := by unfold fitOk; infer_instance
/-- What is wrong with frame k. -/
def frE (L : List Fr) (k : Nat) : Int := if ¬ whoOk (fr L k) k then 4 else if ¬ rangeOk (fr L k) then 2 else if 0 < k ∧ ¬ fitOk (fr L k) (fr L (fr L k).p.toNat) then 3 else 0
def fErrN (L : List Fr) : Nat → Nat → Int
  | _, 0 => 0
  | i, n + 1 => if frE L i = 0 then fErrN L (i + 1) n else frE L i
def fErr (L : List Fr) (i : Nat) : Int := fErrN L i (L.length - i)
def fcheckE (L : List Fr) : Int := if 8 < L.length then 1 else fErr L 0

theorem fErr_step {L : List Fr} {i : Nat} (h : i < L.length) : fErr L i = if frE L i = 0 then fErr L (i + 1) else frE L i := by
  unfold fErr
  obtain ⟨n, hn⟩ : ∃ n, L.length - i = n + 1 := ⟨L.length - i - 1, by omega⟩
  rw [hn, fErrN, show L.length - (i + 1) = n by omega]
theorem fErr_end {L : List Fr} {i : Nat} (h : L.length ≤ i) : fErr L i = 0 := by
  unfold fErr
  rw [show L.length - i = 0 by omega, fErrN]

/-- Right frames. -/
structure RightF (L : List Fr) : Prop where
  few : L.length ≤ 8
  ok : ∀ i, i < L.length → frE L i = 0

theorem fErrN_zero {L : List Fr} : ∀ n i, fErrN L i n = 0 ↔ ∀ j, i ≤ j → j < i + n → frE L j = 0
  | 0, i => by simp [fErrN]; omega
  | n + 1, i => by
    rw [fErrN]
    by_cases h : frE L i = 0
    · rw [if_pos h, fErrN_zero n (i + 1)]
      constructor
      · intro H j h1 h2
        by_cases e : j = i
        · rw [e]; exact h
        · exact H j (by omega) (by omega)
      · intro H j h1 h2
        exact H j (by omega) (by omega)
    · rw [if_neg h]
      constructor
      · intro H; exact absurd H h
      · intro H; exact H i (Nat.le_refl _) (by omega)

theorem fcheck_zero {L : List Fr} : fcheckE L = 0 ↔ RightF L := by
  unfold fcheckE fErr
  by_cases h : 8 < L.length
  · rw [if_pos h]
    exact ⟨fun e => by omega, fun R => absurd R.few (by omega)⟩
  · rw [if_neg h, fErrN_zero]
    exact ⟨fun H => ⟨by omega, fun i hi => H i (by omega) (by omega)⟩, fun R j _ hj => R.ok j (by omega)⟩

theorem frE_zero {L : List Fr} {k : Nat} : frE L k = 0 ↔ whoOk (fr L k) k ∧ rangeOk (fr L k) ∧ (0 < k → fitOk (fr L k) (fr L (fr L k).p.toNat)) := by
  unfold frE
  by_cases h1 : whoOk (fr L k) k
  · rw [if_neg (not_not_intro h1)]
    by_cases h2 : rangeOk (fr L k)
    · rw [if_neg (not_not_intro h2)]
      by_cases h3 : 0 < k ∧ ¬ fitOk (fr L k) (fr L (fr L k).p.toNat)
      · rw [if_pos h3]
        exact ⟨fun e => by omega, fun ⟨_, _, h⟩ => absurd (h h3.1) h3.2⟩
      · rw [if_neg h3]
        refine ⟨fun _ => ⟨h1, h2, fun h0 => ?_⟩, fun _ => rfl⟩
        by_cases h4 : fitOk (fr L k) (fr L (fr L k).p.toNat)
        · exact h4
        · exact absurd ⟨h0, h4⟩ h3
    · rw [if_pos h2]
      exact ⟨fun e => by omega, fun ⟨_, h, _⟩ => absurd h h2⟩
  · rw [if_pos h1]
    exact ⟨fun e => by omega, fun ⟨h, _⟩ => absurd h h1⟩

theorem RightF.first {L : List Fr} (R : RightF L) (h : 0 < L.length) : (fr L 0).p = -1 := by
  have := (frE_zero.1 (R.ok 0 h)).1
  unfold whoOk at this
  simpa using this
theorem RightF.up {L : List Fr} (R : RightF L) {i : Nat} (h : i < L.length) (h0 : 0 < i) : ∃ q : Nat, (fr L i).p = q ∧ q < i ∧ fitOk (fr L i) (fr L q) := by
  obtain ⟨h1, _, h3⟩ := frE_zero.1 (R.ok i h)
  unfold whoOk at h1
  rw [if_neg (by omega)] at h1
  obtain ⟨q, hq⟩ := Int.eq_ofNat_of_zero_le h1.1
  have h4 := h3 h0
  rw [hq] at h4
  refine ⟨q, hq, by omega, h4⟩
theorem RightF.low {L : List Fr} (R : RightF L) {i : Nat} (h : i < L.length) : (fr L i).p < i := by
  by_cases h0 : 0 < i
  · obtain ⟨q, hq, hlt, _⟩ := R.up h h0
    omega
  · have : i = 0 := by omega
    subst this
    rw [R.first h]
    omega
theorem RightF.may {L : List Fr} (R : RightF L) {i : Nat} (h : i < L.length) : 0 ≤ (fr L i).m ∧ (fr L i).m ≤ 7 := (frE_zero.1 (R.ok i h)).2.1.2.1

/-- Is k top, or in it? -/
def withF (L : List Fr) : Nat → Int → Int → Bool
  | 0, _, _ => false
  | n + 1, k, top => if 0 ≤ k ∧ k < L.length then (if k = top then true else withF L n (fr L k.toNat).p top) else false
def inF (L : List Fr) (k top : Int) : Bool := withF L L.length k top

theorem with_none {L : List Fr} {n : Nat} {k top : Int} (h : ¬ (0 ≤ k ∧ k < L.length)) : withF L n k top = false := by
  cases n with
  | zero => rfl
  | succ n => rw [withF, if_neg h]
theorem with_fuel {L : List Fr} (R : RightF L) (top : Int) : ∀ (n m : Nat) (k : Int), k < n → k < m → withF L n k top = withF L m k top
  | 0, m, k, h1, h2 => by rw [with_none (by omega), with_none (by omega)]
  | n + 1, 0, k, h1, h2 => by rw [with_none (by omega), with_none (by omega)]
  | n + 1, m + 1, k, h1, h2 => by
    rw [withF, withF]
    by_cases hk : 0 ≤ k ∧ k < L.length
    · rw [if_pos hk, if_pos hk]
      by_cases e : k = top
      · rw [if_pos e, if_pos e]
      · rw [if_neg e, if_neg e]
        have := R.low (i := k.toNat) (by omega)
        exact with_fuel R top n m _ (by omega) (by omega)
    · rw [if_neg hk, if_neg hk]

theorem in_self {L : List Fr} {k : Nat} (h : k < L.length) : inF L k k = true := by
  unfold inF
  obtain ⟨n, hn⟩ : ∃ n, L.length = n + 1 := ⟨L.length - 1, by omega⟩
  rw [hn, withF, if_pos (by omega), if_pos rfl]
theorem in_up {L : List Fr} (R : RightF L) {i : Nat} {top : Int} (h : i < L.length) (hne : (i : Int) ≠ top) : inF L i top = inF L (fr L i).p top := by
  unfold inF
  have hl := R.low h
  obtain ⟨n, hn⟩ : ∃ n, L.length = n + 1 := ⟨L.length - 1, by omega⟩
  have e : withF L L.length (i : Int) top = withF L n (fr L i).p top := by
    rw [hn, withF, if_pos (by omega), if_neg hne, Int.toNat_natCast]
  rw [e]
  exact with_fuel R top _ _ _ (by omega) (by omega)
/-- Who is in another one may no more than that. -/
theorem with_may {L : List Fr} (R : RightF L) {i : Nat} (hi : i < L.length) : ∀ (n : Nat) (j : Nat), j < L.length → withF L n j i = true → bits .andNot .i64 (fr L j).m (fr L i).m = 0
  | 0, j, _, h => by rw [withF] at h; cases h
  | n + 1, j, hj, h => by
    rw [withF, if_pos (by omega)] at h
    by_cases e : (j : Int) = i
    · have : j = i := by omega
      subst this
      exact an_self (R.may hj).1 (R.may hj).2
    · rw [if_neg e, Int.toNat_natCast] at h
      by_cases h0 : 0 < j
      · obtain ⟨q, hq, hlt, hf⟩ := R.up hj h0
        rw [hq] at h
        have hq' : q < L.length := by omega
        exact an_trans (R.may hj).1 (R.may hj).2 (R.may hq').1 (R.may hq').2 (R.may hi).1 (R.may hi).2 hf.1 (with_may R hi n q hq' h)
      · have : j = 0 := by omega
        subst this
        rw [R.first hj, with_none (by omega)] at h
        cases h

def fholdsE (L : List Fr) (k : Int) : Int := if ¬ (0 ≤ k ∧ k < L.length) then 4 else if (fr L k.toNat).g = true then 5 else 0
def heldE (L : List Fr) (k : Int) : Int := if fcheckE L = 0 then fholdsE L k else fcheckE L
def attF (L : List Fr) (k o m : Int) : Fr := ⟨k, o, bits .and .i64 m (fr L k.toNat).m, 0, false⟩
def attE (L : List Fr) (k o m : Int) : Int := if heldE L k ≠ 0 then heldE L k else if ¬ ((0 ≤ o ∧ o ≤ 9) ∧ (0 ≤ m ∧ m ≤ 7)) then 2 else if bits .and .i64 (fr L k.toNat).m 4 = 0 then 7 else if L.length = 8 then 1 else 0

theorem holds_zero {L : List Fr} {k : Int} (h : fholdsE L k = 0) : ∃ q : Nat, k = q ∧ q < L.length ∧ (fr L q).g = false := by
  unfold fholdsE at h
  by_cases h1 : 0 ≤ k ∧ k < L.length
  · rw [if_neg (not_not_intro h1)] at h
    obtain ⟨q, rfl⟩ := Int.eq_ofNat_of_zero_le h1.1
    cases hg : (fr L q).g with
    | true => rw [if_pos (by exact hg)] at h; cases h
    | false => exact ⟨q, rfl, by omega, hg⟩
  · rw [if_pos h1] at h
    cases h
theorem held_zero {L : List Fr} {k : Int} (h : heldE L k = 0) : RightF L ∧ ∃ q : Nat, k = q ∧ q < L.length ∧ (fr L q).g = false := by
  unfold heldE at h
  by_cases h1 : fcheckE L = 0
  · rw [if_pos h1] at h
    exact ⟨fcheck_zero.1 h1, holds_zero h⟩
  · rw [if_neg h1] at h
    exact absurd h h1
theorem att_zero {L : List Fr} {k o m : Int} (h : attE L k o m = 0) : heldE L k = 0 ∧ (0 ≤ o ∧ o ≤ 9) ∧ (0 ≤ m ∧ m ≤ 7) ∧ bits .and .i64 (fr L k.toNat).m 4 ≠ 0 ∧ L.length ≠ 8 := by
  unfold attE at h
  by_cases h1 : heldE L k = 0
  · rw [if_neg (not_not_intro h1)] at h
    by_cases h2 : (0 ≤ o ∧ o ≤ 9) ∧ (0 ≤ m ∧ m ≤ 7)
    · rw [if_neg (not_not_intro h2)] at h
      by_cases h3 : bits .and .i64 (fr L k.toNat).m 4 = 0
      · rw [if_pos h3] at h; cases h
      · rw [if_neg h3] at h
        by_cases h4 : L.length = 8
        · rw [if_pos h4] at h; cases h
        · exact ⟨h1, h2.1, h2.2, h3, h4⟩
    · rw [if_pos h2] at h; cases h
  · rw [if_pos h1] at h
    exact absurd h h1

theorem att_right {L : List Fr} {k o m : Int} (h : attE L k o m = 0) : RightF (L ++ [attF L k o m]) := by
  obtain ⟨h1, ho, hm, _, h8⟩ := att_zero h
  obtain ⟨R, q, rfl, hq, hg⟩ := held_zero h1
  have hr := and_range hm.1 hm.2 (R.may hq).1 (R.may hq).2
  refine ⟨by have := R.few; simp; omega, fun i hi => ?_⟩
  rw [List.length_append, List.length_singleton] at hi
  by_cases e : i < L.length
  · rw [frE_zero, fr_left e]
    obtain ⟨a1, a2, a3⟩ := frE_zero.1 (R.ok i e)
    refine ⟨a1, a2, fun h0 => ?_⟩
    have hl := R.low e
    rw [fr_left (by omega)]
    exact a3 h0
  · have e2 : i = L.length := by omega
    subst e2
    rw [frE_zero, fr_last]
    refine ⟨?_, ?_, fun _ => ?_⟩
    · unfold whoOk attF
      rw [if_neg (by omega)]
      dsimp only
      omega
    · unfold rangeOk attF
      dsimp only
      exact ⟨ho, by simpa using hr, by omega⟩
    · unfold fitOk attF
      dsimp only
      rw [Int.toNat_natCast, fr_left hq]
      exact ⟨an_right hm.1 hm.2 (R.may hq).1 (R.may hq).2, Or.inr hg⟩

/-- k, and all in it, are gone. -/
def disF (L : List Fr) (k : Int) : List Fr := (List.range L.length).map fun i => { fr L i with g := (fr L i).g || inF L i k }
theorem dis_len (L : List Fr) (k : Int) : (disF L k).length = L.length := by unfold disF; simp
theorem dis_at {L : List Fr} {k : Int} {i : Nat} (h : i < L.length) : fr (disF L k) i = { fr L i with g := (fr L i).g || inF L i k } := by
  rw [fr_elem (by rw [dis_len]; exact h)]
  unfold disF
  simp
theorem dis_right {L : List Fr} (R : RightF L) (k : Int) : RightF (disF L k) := by
  refine ⟨by rw [dis_len]; exact R.few, fun i hi => ?_⟩
  rw [dis_len] at hi
  obtain ⟨a1, a2, a3⟩ := frE_zero.1 (R.ok i hi)
  rw [frE_zero, dis_at hi]
  refine ⟨a1, a2, fun h0 => ?_⟩
  dsimp only
  obtain ⟨q, hq, hlt, hf⟩ := R.up hi h0
  rw [hq, Int.toNat_natCast, dis_at (by omega)]
  refine ⟨hf.1, ?_⟩
  dsimp only
  by_cases e : (i : Int) = k
  · left
    subst e
    rw [in_self hi, Bool.or_true]
  · rw [in_up R hi e, hq]
    rcases hf.2 with h | h
    · left; rw [h, Bool.true_or]
    · rw [h]
      cases hin : inF L (q : Int) k with
      | true => left; rw [Bool.or_true]
      | false => right; rfl
theorem dis_holds {L : List Fr} {k : Nat} (h : k < L.length) : fholdsE (disF L k) k = 5 := by
  unfold fholdsE
  rw [dis_len, if_neg (by omega), Int.toNat_natCast, dis_at h, if_pos]
  dsimp only
  rw [in_self h, Bool.or_true]

/-- How many are right in k. -/
def lenF (L : List Fr) (k : Int) : Nat := L.countP (fun f => decide (f.p = k) && !f.g)
def cntF (L : List Fr) (j : Int) : Nat := L.countP (fun f => !f.g && (decide (0 ≤ f.p) && decide (f.p < j)))
def aliveF (L : List Fr) : Nat := L.countP (fun f => !f.g)
theorem cnt_zero (L : List Fr) : cntF L 0 = 0 := by
  unfold cntF
  rw [List.countP_eq_zero]
  intro x _
  simp
theorem cnt_step (L : List Fr) (j : Nat) : cntF L ((j : Int) + 1) = cntF L j + lenF L j := by
  unfold cntF lenF
  induction L with
  | nil => rfl
  | cons x l ih =>
    rw [List.countP_cons, List.countP_cons, List.countP_cons, ih]
    have : (if (!x.g && (decide (0 ≤ x.p) && decide (x.p < (j : Int) + 1))) = true then 1 else 0) = (if (!x.g && (decide (0 ≤ x.p) && decide (x.p < (j : Int)))) = true then 1 else 0) + (if (decide (x.p = (j : Int)) && !x.g) = true then 1 else 0) := by
      cases x.g
      · by_cases h1 : x.p = j
        · simp [h1]; omega
        · by_cases h2 : x.p < j
          · have h3 : x.p < (j : Int) + 1 := by omega
            simp [h1, h2, h3]
          · have h3 : ¬ x.p < (j : Int) + 1 := by omega
            simp [h1, h2, h3]
      · simp
    omega
theorem len_gone {L : List Fr} (R : RightF L) {j : Nat} (hj : j < L.length) (hg : (fr L j).g = true) : lenF L j = 0 := by
  unfold lenF
  rw [List.countP_eq_zero]
  intro x hx
  obtain ⟨i, hi, rfl⟩ := List.getElem_of_mem hx
  rw [← fr_elem hi]
  simp
  intro hp
  by_cases h0 : 0 < i
  · obtain ⟨q, hq, hlt, hf⟩ := R.up hi h0
    have : q = j := by omega
    subst this
    rcases hf.2 with h | h
    · exact h
    · rw [hg] at h; cases h
  · have : i = 0 := by omega
    subst this
    rw [R.first hi] at hp
    omega
theorem cnt_end {L : List Fr} (R : RightF L) (h0 : 0 < L.length) (hg : (fr L 0).g = false) : cntF L L.length + 1 = aliveF L := by
  have hf := R.first h0
  obtain ⟨x, l, rfl⟩ : ∃ x l, L = x :: l := by
    cases L with
    | nil => cases h0
    | cons x l => exact ⟨x, l, rfl⟩
  have hx : fr (x :: l) 0 = x := rfl
  rw [hx] at hf hg
  unfold cntF aliveF
  rw [List.countP_cons, List.countP_cons, hf, hg]
  simp
  refine List.countP_congr (fun y hy => ?_)
  obtain ⟨i, hi, rfl⟩ := List.getElem_of_mem hy
  have hi' : i + 1 < (x :: l).length := by simp; omega
  obtain ⟨q, hq, hlt, _⟩ := R.up hi' (by omega)
  have e : fr (x :: l) (i + 1) = l[i] := by rw [fr_elem hi']; rfl
  rw [e] at hq
  rw [hq]
  simp at hi' ⊢
  omega
theorem alive_step {L : List Fr} {j : Nat} (h : j < L.length) : aliveF (L.take (j + 1)) = aliveF (L.take j) + (if (fr L j).g = true then 0 else 1) := by
  unfold aliveF
  rw [List.take_succ_eq_append_getElem h, List.countP_append, fr_elem h]
  cases hg : L[j].g <;> simp [hg]
theorem len_step {L : List Fr} {j : Nat} (k : Int) (h : j < L.length) : lenF (L.take (j + 1)) k = lenF (L.take j) k + (if (fr L j).p = k ∧ (fr L j).g = false then 1 else 0) := by
  unfold lenF
  rw [List.take_succ_eq_append_getElem h, List.countP_append, fr_elem h]
  by_cases h1 : L[j].p = k
  · cases hg : L[j].g <;> simp [hg, h1]
  · simp [h1]
end Go.Proofs.Ytbcgfhkhbbkhnaa
