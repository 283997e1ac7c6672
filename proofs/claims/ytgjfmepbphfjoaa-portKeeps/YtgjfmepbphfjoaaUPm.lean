/-
  Two ports that are each other's mates: what is pushed, and what comes out, without the program.
-/
import Derived.Test.YtgjfmepbphfjoaaUPk
namespace Go.Proofs.Ytgjfmepbphfjoaa
set_option linter.unusedVariables false

def two (o : Nat → Int) (C : Nat → List (List Cl)) : List Pt := [⟨o 0, 0, 1, C 0, false⟩, ⟨o 1, 0, 0, C 1, false⟩]
def upd {α : Type} (f : Nat → α) (s : Nat) (v : α) : Nat → α := fun i => if i = s then v else f i
theorem upd_same {α : Type} (f : Nat → α) (s : Nat) (v : α) : upd f s v s = v := if_pos rfl
theorem upd_other {α : Type} (f : Nat → α) {s i : Nat} (v : α) (h : i ≠ s) : upd f s v i = f i := if_neg h
theorem two_len (o : Nat → Int) (C : Nat → List (List Cl)) : (two o C).length = 2 := rfl
theorem two_at (o : Nat → Int) (C : Nat → List (List Cl)) {s : Nat} (hs : s < 2) : pt (two o C) s = ⟨o s, 0, ((1 - s : Nat) : Int), C s, false⟩ := by
  match s, hs with
  | 0, _ => rfl
  | 1, _ => rfl
structure TwoOk (o : Nat → Int) (C : Nat → List (List Cl)) : Prop where
  own : ∀ s, s < 2 → 0 ≤ o s ∧ o s ≤ 2
  few : ∀ s, s < 2 → (C s).length ≤ 16
  right : ∀ s, s < 2 → ∀ j, j < (C s).length → Right (gr (C s) j)
theorem two_right {o : Nat → Int} {C : Nat → List (List Cl)} (h : TwoOk o C) : RightP (two o C) 3 := by
  refine ⟨by rw [two_len]; omega, fun i hi => ?_⟩
  rw [two_len] at hi
  rw [portE_zero, two_at o C hi, two_len]
  dsimp only
  rw [Int.toNat_natCast, two_at o C (by omega)]
  dsimp only
  have h1 := h.own i hi
  have h2 := h.few i hi
  exact ⟨by omega, by omega, ⟨by omega, by omega⟩, by omega, ⟨h2, fun e => by cases e⟩, graphs_zero.2 (h.right i hi)⟩
theorem two_check {o : Nat → Int} {C : Nat → List (List Cl)} (h : TwoOk o C) : pcheckE (two o C) 3 = 0 := pcheck_zero.2 (two_right h)
theorem two_held {o : Nat → Int} {C : Nat → List (List Cl)} (h : TwoOk o C) {s : Nat} (hs : s < 2) (x t : Int) : heldPE (two o C) 3 s x t = if o s ≠ x ∨ (0 : Int) ≠ t then 7 else 0 := by
  unfold heldPE
  rw [two_check h, if_neg (by decide), two_len, if_neg (by omega), Int.toNat_natCast, two_at o C hs]
  dsimp only
  split
  · rfl
  · rfl
theorem two_no {o : Nat → Int} {C : Nat → List (List Cl)} (h : TwoOk o C) {s : Nat} (hs : s < 2) {x t : Int} (hx : o s ≠ x ∨ (0 : Int) ≠ t) : heldPE (two o C) 3 s x t = 7 ∧ pullE (two o C) 3 s x t = 7 := by
  have e := two_held h hs x t
  rw [if_pos hx] at e
  refine ⟨e, ?_⟩
  unfold pullE
  rw [e, if_pos (by decide)]
theorem two_yes {o : Nat → Int} {C : Nat → List (List Cl)} (h : TwoOk o C) {s : Nat} (hs : s < 2) : heldPE (two o C) 3 s (o s) 0 = 0 := by
  rw [two_held h hs, if_neg (by simp)]
theorem two_set {o : Nat → Int} {C : Nat → List (List Cl)} {s : Nat} (hs : s < 2) (x : Int) (D : List (List Cl)) : (two o C).set s ⟨x, 0, ((1 - s : Nat) : Int), D, false⟩ = two (upd o s x) (upd C s D) := by
  match s, hs with
  | 0, _ => rfl
  | 1, _ => rfl
theorem upd_id {α : Type} (f : Nat → α) (s : Nat) : upd f s (f s) = f := by
  funext i
  unfold upd
  split
  · rename_i h; rw [h]
  · rfl
theorem two_push {o : Nat → Int} {C : Nat → List (List Cl)} (h : TwoOk o C) {s : Nat} (hs : s < 2) (G : List Cl) :
    pushE (two o C) 3 s (o s) 0 G = (if gcheckE G ≠ 0 then gcheckE G else if (C (1 - s)).length = 16 then 1 else 0) ∧ pushL (two o C) s G = two o (upd C (1 - s) (C (1 - s) ++ [copyF G])) := by
  have em : mateP (two o C) s = ⟨o (1 - s), 0, ((1 - (1 - s) : Nat) : Int), C (1 - s), false⟩ := by
    unfold mateP
    rw [Int.toNat_natCast, two_at o C hs]
    dsimp only
    rw [Int.toNat_natCast, two_at o C (by omega)]
  constructor
  · unfold pushE
    rw [two_yes h hs, if_neg (by decide), em]
    dsimp only
    rfl
  · unfold pushL
    rw [em, Int.toNat_natCast, two_at o C hs]
    dsimp only
    rw [Int.toNat_natCast, two_set (by omega), upd_id]
theorem two_pull {o : Nat → Int} {C : Nat → List (List Cl)} (h : TwoOk o C) {s : Nat} (hs : s < 2) :
    pullE (two o C) 3 s (o s) 0 = (if (C s).length = 0 then 8 else 0) ∧ pullL (two o C) s = two o (upd C s ((C s).drop 1)) ∧ gr (pt (two o C) s).cm 0 = gr (C s) 0 := by
  refine ⟨?_, ?_, ?_⟩
  · unfold pullE
    rw [two_yes h hs, if_neg (by decide), Int.toNat_natCast, two_at o C hs]
  · unfold pullL
    rw [Int.toNat_natCast, two_at o C hs]
    dsimp only
    rw [two_set hs, upd_id]
  · rw [two_at o C hs]
theorem two_pass {o : Nat → Int} {C : Nat → List (List Cl)} (h : TwoOk o C) {s : Nat} (hs : s < 2) {x : Int} (hx : 0 ≤ x ∧ x ≤ 2) :
    passE (two o C) 3 s (o s) 0 x 0 = 0 ∧ passL (two o C) s x 0 = two (upd o s x) C := by
  constructor
  · unfold passE
    rw [two_yes h hs, if_neg (by decide), if_neg (by omega), if_neg (by omega)]
  · unfold passL
    rw [Int.toNat_natCast, two_at o C hs]
    dsimp only
    rw [two_set hs, upd_id]

/-- What was sent on one side came out, or waits, on the other one. -/
structure Keep (o : Nat → Int) (C sent got : Nat → List (List Cl)) : Prop where
  ok : TwoOk o C
  sr : ∀ s, s < 2 → ∀ j, j < (sent s).length → Right (gr (sent s) j)
  eq : ∀ s, s < 2 → (sent (1 - s)).map copyF = got s ++ C s
theorem Keep.start : Keep (fun _ => 0) (fun _ => []) (fun _ => []) (fun _ => []) :=
  ⟨⟨fun _ _ => by omega, fun _ _ => by simp, fun _ _ j hj => absurd hj (Nat.not_lt_zero _)⟩, fun _ _ j hj => absurd hj (Nat.not_lt_zero _), fun _ _ => rfl⟩
theorem Keep.count {o : Nat → Int} {C sent got : Nat → List (List Cl)} (h : Keep o C sent got) {s : Nat} (hs : s < 2) : (sent (1 - s)).length = (got s).length + (C s).length := by
  have e := congrArg List.length (h.eq s hs)
  rwa [List.length_map, List.length_append] at e
theorem right_snoc {D : List (List Cl)} {G : List Cl} (h : ∀ j, j < D.length → Right (gr D j)) (hG : Right G) : ∀ j, j < (D ++ [G]).length → Right (gr (D ++ [G]) j) := fun j hj => by
  rw [List.length_append, List.length_singleton] at hj
  by_cases e : j < D.length
  · rw [gr_left e]
    exact h j e
  · have e2 : j = D.length := by omega
    rw [e2, gr_last]
    exact hG
theorem Keep.push {o : Nat → Int} {C sent got : Nat → List (List Cl)} (h : Keep o C sent got) {s : Nat} (hs : s < 2) {G : List Cl} (hG : gcheckE G = 0) (h16 : (C (1 - s)).length ≠ 16) : Keep o (upd C (1 - s) (C (1 - s) ++ [copyF G])) (upd sent s (sent s ++ [G])) got := by
  have hR := gcheck_zero.1 hG
  have hf := h.ok.few (1 - s) (by omega)
  refine ⟨⟨h.ok.own, fun i hi => ?_, fun i hi => ?_⟩, fun i hi => ?_, fun i hi => ?_⟩
  · unfold upd
    split
    · rw [List.length_append, List.length_singleton]; omega
    · exact h.ok.few i hi
  · unfold upd
    split
    · exact right_snoc (h.ok.right (1 - s) (by omega)) hR.copy
    · exact h.ok.right i hi
  · unfold upd
    split
    · exact right_snoc (h.sr s hs) hR
    · exact h.sr i hi
  · by_cases e : i = 1 - s
    · have e2 : 1 - i = s := by omega
      rw [e2, e, upd_same, upd_same, List.map_append, List.map_cons, List.map_nil, ← List.append_assoc]
      have := h.eq (1 - s) (by omega)
      rw [show 1 - (1 - s) = s by omega] at this
      rw [this]
    · rw [upd_other _ _ (by omega), upd_other _ _ e]
      exact h.eq i hi
theorem Keep.pull {o : Nat → Int} {C sent got : Nat → List (List Cl)} (h : Keep o C sent got) {s : Nat} (hs : s < 2) (h0 : (C s).length ≠ 0) : Keep o (upd C s ((C s).drop 1)) sent (upd got s (got s ++ [gr (C s) 0])) := by
  refine ⟨⟨h.ok.own, fun i hi => ?_, fun i hi => ?_⟩, h.sr, fun i hi => ?_⟩
  · unfold upd
    split
    · have := h.ok.few s hs; rw [List.length_drop]; omega
    · exact h.ok.few i hi
  · unfold upd
    split
    · intro j hj
      rw [List.length_drop] at hj
      rw [gr_drop _ (by omega)]
      exact h.ok.right s hs (j + 1) (by omega)
    · exact h.ok.right i hi
  · by_cases e : i = s
    · subst e
      rw [upd_same, upd_same, h.eq i hi, List.append_assoc]
      congr 1
      rw [gr_elem (by omega)]
      have := List.drop_eq_getElem_cons (l := C i) (i := 0) (by omega)
      rw [List.drop_zero] at this
      exact this
    · rw [upd_other _ _ e, upd_other _ _ e]
      exact h.eq i hi
theorem Keep.pass {o : Nat → Int} {C sent got : Nat → List (List Cl)} (h : Keep o C sent got) {s : Nat} (hs : s < 2) {x : Int} (hx : 0 ≤ x ∧ x ≤ 2) : Keep (upd o s x) C sent got := by
  refine ⟨⟨fun i hi => ?_, h.ok.few, h.ok.right⟩, h.sr, h.eq⟩
  unfold upd
  split
  · exact hx
  · exact h.ok.own i hi
theorem Keep.like {o : Nat → Int} {C sent got : Nat → List (List Cl)} (h : Keep o C sent got) {s : Nat} (hs : s < 2) {i : Nat} (hi : i < (got s).length) : i < (sent (1 - s)).length ∧ Right (gr (got s) i) ∧ Right (gr (sent (1 - s)) i) ∧ copyF (gr (got s) i) = copyF (gr (sent (1 - s)) i) := by
  have hc := h.count hs
  have hi2 : i < (sent (1 - s)).length := by omega
  have hR := h.sr (1 - s) (by omega) i hi2
  have e : gr (got s) i = copyF (gr (sent (1 - s)) i) := by
    have e1 : ((sent (1 - s)).map copyF)[i]? = (got s ++ C s)[i]? := by rw [h.eq s hs]
    rw [List.getElem?_append_left hi, List.getElem?_map, List.getElem?_eq_getElem hi2, List.getElem?_eq_getElem hi] at e1
    rw [gr_elem hi, gr_elem hi2]
    exact (Option.some.inj e1).symm
  refine ⟨hi2, by rw [e]; exact hR.copy, hR, ?_⟩
  rw [e]
  exact copy_copy hR.kids
end Go.Proofs.Ytgjfmepbphfjoaa
