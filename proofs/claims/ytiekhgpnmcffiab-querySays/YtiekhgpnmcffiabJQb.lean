/-
  Queries as the reference reckons them: from the top of a line down; and that it is what the program reckons. Without the program.
-/
import Derived.Test.YtiekhgpnmcffiabJVe
namespace Go.Proofs.Ytiekhgpnmcffiab
open Go.RowKit

/-- The tests up to j are so, the last of them of x. -/
def SoJ (S : List Nd) (q : List Tst) : Nat → Nat → Prop
  | 0, x => testB (tst q 0).t (tst q 0).m (nd S x) = true
  | j + 1, x => testB (tst q (j + 1)).t (tst q (j + 1)).m (nd S x) = true ∧ ∃ y, Abv S (tst q (j + 1)).near x y ∧ SoJ S q j y

theorem tests_rev {q : List Tst} {j : Nat} (h : j < q.length) : (q.take (j + 1)).reverse = tst q j :: (q.take j).reverse := by
  rw [List.take_succ_eq_append_getElem h, List.reverse_append]
  unfold tst
  rw [getD_elem q _ h]
  rfl

theorem go_iff {S : List Nd} (wf : WF S) {q : List Tst} : ∀ {j : Nat}, j < q.length → ∀ {ps : List Int}, Places S ps → ((soGo S (q.take (j + 1)).reverse ps ≠ []) ↔ ∃ x : Nat, (x : Int) ∈ ps ∧ SoJ S q j x)
  | 0, h, ps, hp => by
    rw [tests_rev h]
    simp only [List.take_zero, List.reverse_nil, soGo]
    constructor
    · intro hne
      obtain ⟨x, hx⟩ := List.exists_mem_of_ne_nil _ hne
      obtain ⟨h1, h2⟩ := mem_sift.1 hx
      obtain ⟨k, rfl, hk⟩ := hp x h1
      rw [Int.toNat_natCast] at h2
      exact ⟨k, h1, h2⟩
    · rintro ⟨x, hx, hs⟩ he
      have : (x : Int) ∈ siftF S (tst q 0) ps := mem_sift.2 ⟨hx, by rw [Int.toNat_natCast]; exact hs⟩
      rw [he] at this
      cases this
  | j + 1, h, ps, hp => by
    rw [tests_rev h, tests_rev (show j < q.length by omega)]
    have hs : Places S (siftF S (tst q (j + 1)) ps) := hp.sift
    obtain ⟨hp2, hm⟩ := mem_above wf (tst q (j + 1)).near hs
    have ih := go_iff wf (show j < q.length by omega) hp2
    rw [tests_rev (show j < q.length by omega)] at ih
    simp only [soGo]
    rw [ih]
    constructor
    · rintro ⟨z, hz, hsz⟩
      obtain ⟨k, hk, ha⟩ := (hm z).1 hz
      obtain ⟨h1, h2⟩ := mem_sift.1 hk
      rw [Int.toNat_natCast] at h2
      exact ⟨k, h1, h2, z, ha, hsz⟩
    · rintro ⟨x, hx, h2, z, ha, hsz⟩
      exact ⟨z, (hm z).2 ⟨x, mem_sift.2 ⟨hx, by rw [Int.toNat_natCast]; exact h2⟩, ha⟩, hsz⟩

theorem isSo_iff {S : List Nd} (wf : WF S) {q : List Tst} {k : Nat} (hk : k < S.length) (hq : 0 < q.length) : isSoF S k q = true ↔ SoJ S q (q.length - 1) k := by
  have h := go_iff wf (q := q) (j := q.length - 1) (by omega) (ps := [(k : Int)]) (fun x hx => ⟨k, by simpa using hx, hk⟩)
  rw [show q.length - 1 + 1 = q.length by omega, List.take_length] at h
  unfold isSoF
  rw [decide_eq_true_iff, List.length_pos_iff, h]
  constructor
  · rintro ⟨x, hx, hs⟩
    have : x = k := by have : (x : Int) = k := by simpa using hx
                       omega
    rw [← this]
    exact hs
  · intro hs
    exact ⟨k, by simp, hs⟩

/-- A node, its Parent, and so on. -/
def ppF (S : List Nd) : Nat → Int → List Int
  | 0, _ => []
  | f + 1, x => if isPl S.length x then x :: ppF S f (nd S x.toNat).p else []

theorem pp_len (S : List Nd) : ∀ (f : Nat) (x : Int), (ppF S f x).length ≤ f
  | 0, _ => by simp [ppF]
  | f + 1, x => by
    rw [ppF]
    split
    · have := pp_len S f (nd S x.toNat).p
      simp; omega
    · simp

/-- What is reckoned at a node: of each test whether those up to it are so, it of this node. -/
def nowF (S : List Nd) (q : List Tst) (x : Int) (last reach : Nat → Bool) (j : Nat) : Bool := testB (tst q j).t (tst q j).m (nd S x.toNat) && (if j = 0 then true else if (tst q j).near then last (j - 1) else reach (j - 1))

def dpStep (S : List Nd) (q : List Tst) (st : (Nat → Bool) × (Nat → Bool)) (x : Int) : (Nat → Bool) × (Nat → Bool) := (nowF S q x st.1 st.2, fun j => st.2 j || nowF S q x st.1 st.2 j)

def dpF (S : List Nd) (q : List Tst) (line : List Int) : (Nat → Bool) × (Nat → Bool) := line.foldl (dpStep S q) (fun _ => false, fun _ => false)

theorem dp_snoc (S : List Nd) (q : List Tst) (l : List Int) (x : Int) : dpF S q (l ++ [x]) = dpStep S q (dpF S q l) x := by
  unfold dpF
  rw [List.foldl_append]
  rfl

theorem dp_iff {S : List Nd} (q : List Tst) : ∀ (f : Nat) (x : Nat), x < S.length → (∀ j z, PUp S j x z → j < f) → ∀ j, ((dpF S q (ppF S f x).reverse).1 j = true ↔ SoJ S q j x) ∧ ((dpF S q (ppF S f x).reverse).2 j = true ↔ ∃ i z, PUp S i x z ∧ SoJ S q j z)
  | 0, x, _, hf, _ => absurd (hf 0 x rfl) (by omega)
  | f + 1, x, hx, hf, j => by
    have e : ppF S (f + 1) x = (x : Int) :: ppF S f (nd S x).p := by rw [ppF, if_pos (isPl_nat.2 hx), Int.toNat_natCast]
    rw [e, List.reverse_cons, dp_snoc]
    by_cases hp : ∃ y : Nat, (nd S x).p = y ∧ y < S.length
    · obtain ⟨y, hy1, hy2⟩ := hp
      rw [hy1]
      have ih := dp_iff q f y hy2 (fun i z h => by have := hf (i + 1) z ⟨y, hy2, hy1, h⟩; omega)
      have hnow : ∀ j, (nowF S q (x : Int) (dpF S q (ppF S f y).reverse).1 (dpF S q (ppF S f y).reverse).2 j = true) ↔ SoJ S q j x := fun j => by
        unfold nowF
        rw [Int.toNat_natCast, Bool.and_eq_true]
        cases j with
        | zero => simp [SoJ]
        | succ j =>
          rw [if_neg (by omega), Nat.add_sub_cancel]
          simp only [SoJ]
          refine and_congr_right fun _ => ?_
          unfold Abv
          by_cases hn : (tst q (j + 1)).near = true
          · rw [if_pos hn, (ih j).1]
            simp only [hn, if_true]
            constructor
            · intro h; exact ⟨y, ⟨hy1, hy2⟩, h⟩
            · rintro ⟨z, ⟨h1, _⟩, h⟩
              have : z = y := by omega
              rw [← this]; exact h
          · rw [if_neg hn, (ih j).2]
            simp only [if_neg hn]
            constructor
            · rintro ⟨i, z, h1, h2⟩; exact ⟨z, ⟨y, i, hy1, hy2, h1⟩, h2⟩
            · rintro ⟨z, ⟨y0, i, h1, _, h3⟩, h2⟩
              have : y0 = y := by omega
              subst this
              exact ⟨i, z, h3, h2⟩
      refine ⟨hnow j, ?_⟩
      show ((dpF S q (ppF S f y).reverse).2 j || _) = true ↔ _
      rw [Bool.or_eq_true, (ih j).2, hnow j]
      constructor
      · rintro (⟨i, z, h1, h2⟩ | h)
        · exact ⟨i + 1, z, ⟨y, hy2, hy1, h1⟩, h2⟩
        · exact ⟨0, x, rfl, h⟩
      · rintro ⟨i, z, h1, h2⟩
        cases i with
        | zero => cases h1; exact Or.inr h2
        | succ i =>
          obtain ⟨y', _, h4, h5⟩ := h1
          have : y' = y := by omega
          subst this
          exact Or.inl ⟨i, z, h5, h2⟩
    · have e0 : ppF S f (nd S x).p = [] := by
        cases f with
        | zero => rfl
        | succ f =>
          rw [ppF, if_neg]
          intro h
          have h2 : 0 ≤ (nd S x).p ∧ (nd S x).p ≤ (S.length : Int) - 1 := of_decide_eq_true h
          exact hp ⟨(nd S x).p.toNat, by omega, by omega⟩
      rw [e0]
      have hnow : ∀ j, (nowF S q (x : Int) (dpF S q ([] : List Int).reverse).1 (dpF S q ([] : List Int).reverse).2 j = true) ↔ SoJ S q j x := fun j => by
        unfold nowF
        rw [Int.toNat_natCast, Bool.and_eq_true]
        cases j with
        | zero => simp [SoJ]
        | succ j =>
          rw [if_neg (by omega)]
          simp only [SoJ]
          refine and_congr_right fun _ => ?_
          constructor
          · intro h
            have : (if (tst q (j + 1)).near = true then false else false) = true := h
            simp at this
          · rintro ⟨z, h1, _⟩
            exfalso
            obtain ⟨y0, _, h3, h4, _⟩ : Abv S false x z := h1.far
            exact hp ⟨y0, h3, h4⟩
      refine ⟨hnow j, ?_⟩
      show ((false : Bool) || nowF S q (x : Int) (dpF S q ([] : List Int).reverse).1 (dpF S q ([] : List Int).reverse).2 j) = true ↔ _
      rw [Bool.false_or, hnow j]
      constructor
      · intro h; exact ⟨0, x, rfl, h⟩
      · rintro ⟨i, z, h1, h2⟩
        cases i with
        | zero => cases h1; exact h2
        | succ i =>
          obtain ⟨y', h3, h4, _⟩ := h1
          exact absurd ⟨y', h4, h3⟩ hp

theorem WF.pup_short {S : List Nd} (wf : WF S) {x z j : Nat} (hx : x < S.length) (h : PUp S j x z) : j < S.length + 1 := by
  have := wf.up_short hx (PUp.up wf hx h)
  omega

theorem dp_isSo {S : List Nd} (wf : WF S) {q : List Tst} {k : Nat} (hk : k < S.length) (hq : 0 < q.length) : (dpF S q (ppF S (S.length + 1) k).reverse).1 (q.length - 1) = isSoF S k q := by
  have h1 := (dp_iff (S := S) q (S.length + 1) k hk (fun j z h => wf.pup_short hk h) (q.length - 1)).1
  have h2 := isSo_iff wf hk hq
  cases e1 : (dpF S q (ppF S (S.length + 1) k).reverse).1 (q.length - 1) with
  | true => rw [h2.2 (h1.1 e1)]
  | false =>
    cases e2 : isSoF S k q with
    | false => rfl
    | true => rw [h1.2 (h2.1 e2)] at e1; cases e1
end Go.Proofs.Ytiekhgpnmcffiab
