/-
  The slots of a root, and what is given to each, without the program.
-/
import Derived.Test.YthlpkdmmkfhleacJZpLb
namespace Go.Proofs.Ythlpkdmmkfhleac
open Go.RowKit

structure Slt where
  pl : Int
  num : Int
  gv : List Int

def numF (S : List Nd) (x : Int) : Int := (nd S x.toNat).t - 90
def slotStep (S : List Nd) (H : Nat) (out : List Slt) (x : Int) : List Slt :=
  if numF S x < 0 then out else out ++ [⟨x, numF S x, if out.any (fun s => decide (s.num = numF S x)) then [] else markedF S H (numF S x)⟩]
def slotsL (S : List Nd) (H : Nat) (l : List Int) : List Slt := l.foldl (slotStep S H) []
def slotsF (S : List Nd) (H : Nat) : List Slt := if rootE S H = -1 then [] else slotsL S H (orderF S S.length (rootE S H).toNat)

theorem mem_marked {S : List Nd} {H : Nat} {mk x : Int} : x ∈ markedF S H mk ↔ x ∈ (nd S H).ks ∧ (nd S x.toNat).m = mk := by
  unfold markedF
  rw [mem_flt]
  unfold notMarkB
  simp

theorem slotsL_snoc (S : List Nd) (H : Nat) (l : List Int) (x : Int) : slotsL S H (l ++ [x]) = slotStep S H (slotsL S H l) x := by
  unfold slotsL
  rw [List.foldl_append]
  rfl

theorem list_snoc_ind {α : Type} {P : List α → Prop} (h0 : P []) (h1 : ∀ l x, P l → P (l ++ [x])) (l : List α) : P l := by
  have : ∀ n, ∀ l : List α, l.length = n → P l := by
    intro n
    induction n with
    | zero => intro l hl; cases l with | nil => exact h0 | cons => cases hl
    | succ n ih =>
      intro l hl
      have hne : l ≠ [] := by intro e; subst e; cases hl
      rw [← List.dropLast_concat_getLast hne]
      exact h1 _ _ (ih _ (by rw [List.length_dropLast]; omega))
  exact this _ l rfl

theorem slots_mem {S : List Nd} {H : Nat} (l : List Int) : ∀ s ∈ slotsL S H l, s.pl ∈ l ∧ s.num = numF S s.pl ∧ 0 ≤ s.num ∧ (s.gv = [] ∨ s.gv = markedF S H s.num) := by
  induction l using list_snoc_ind with
  | h0 => intro s hs; cases hs
  | h1 l x ih =>
    intro s hs
    rw [slotsL_snoc] at hs
    unfold slotStep at hs
    split at hs
    · obtain ⟨h1, h2⟩ := ih s hs
      exact ⟨List.mem_append_left _ h1, h2⟩
    · rename_i hn
      rcases List.mem_append.1 hs with hs | hs
      · obtain ⟨h1, h2⟩ := ih s hs
        exact ⟨List.mem_append_left _ h1, h2⟩
      · have e := List.mem_singleton.1 hs
        subst e
        refine ⟨by simp, rfl, by dsimp only; omega, ?_⟩
        dsimp only
        split
        · exact Or.inl rfl
        · exact Or.inr rfl

theorem slots_pls (S : List Nd) (H : Nat) (l : List Int) : (slotsL S H l).map Slt.pl = l.filter (fun x => decide (0 ≤ numF S x)) := by
  induction l using list_snoc_ind with
  | h0 => rfl
  | h1 l x ih =>
    rw [slotsL_snoc, List.filter_append, ← ih]
    unfold slotStep
    split
    · rename_i h
      have : ¬ 0 ≤ numF S x := by omega
      simp [this]
    · rename_i h
      have : 0 ≤ numF S x := by omega
      simp [this]

theorem slots_len (S : List Nd) (H : Nat) (l : List Int) : (slotsL S H l).length ≤ l.length := by
  have h := congrArg List.length (slots_pls S H l)
  rw [List.length_map] at h
  rw [h]
  exact List.length_filter_le _ _

theorem slots_pair (S : List Nd) (H : Nat) (l : List Int) : (slotsL S H l).Pairwise (fun s s' => s'.gv = [] ∨ s.num ≠ s'.num) := by
  induction l using list_snoc_ind with
  | h0 => exact List.Pairwise.nil
  | h1 l x ih =>
    rw [slotsL_snoc]
    unfold slotStep
    split
    · exact ih
    · rw [List.pairwise_append]
      refine ⟨ih, List.pairwise_singleton _ _, fun s hs s' hs' => ?_⟩
      have e := List.mem_singleton.1 hs'
      subst e
      dsimp only
      split
      · exact Or.inl rfl
      · rename_i hany
        right
        intro e
        exact hany (List.any_eq_true.2 ⟨s, hs, decide_eq_true e⟩)

/-- Who is given to a slot is given to no other one. -/
theorem slots_one {S : List Nd} {H : Nat} {l : List Int} {s s' : Slt} (hs : s ∈ slotsL S H l) (hs' : s' ∈ slotsL S H l) {c : Int} (hc : c ∈ s.gv) (hc' : c ∈ s'.gv) : s = s' := by
  obtain ⟨_, _, _, h1⟩ := slots_mem l s hs
  obtain ⟨_, _, _, h2⟩ := slots_mem l s' hs'
  have n1 : s.gv ≠ [] := fun e => by rw [e] at hc; cases hc
  have n2 : s'.gv ≠ [] := fun e => by rw [e] at hc'; cases hc'
  have e1 := h1.resolve_left n1
  have e2 := h2.resolve_left n2
  rw [e1] at hc
  rw [e2] at hc'
  have m1 := (mem_marked.1 hc).2
  have m2 := (mem_marked.1 hc').2
  have hp := slots_pair S H l
  obtain ⟨i, hi, rfl⟩ := List.getElem_of_mem hs
  obtain ⟨j, hj, rfl⟩ := List.getElem_of_mem hs'
  rw [List.pairwise_iff_getElem] at hp
  rcases Nat.lt_trichotomy i j with hlt | e | hlt
  · rcases hp i j hi hj hlt with h | h
    · exact absurd h n2
    · exact absurd (m1.symm.trans m2) h
  · subst e; rfl
  · rcases hp j i hj hi hlt with h | h
    · exact absurd h n1
    · exact absurd (m2.symm.trans m1) h

/-- What the slot at a place is given, of the hosts below h. -/
def givT (S : List Nd) : Nat → Nat → List Int
  | 0, _ => []
  | h + 1, p => match (slotsF S h).find? (fun s => decide (s.pl = (p : Int))) with
    | some s => s.gv
    | none => givT S h p
def givI (S : List Nd) (h : Nat) (L : List Slt) (p : Nat) : List Int := match L.find? (fun s => decide (s.pl = (p : Int))) with
    | some s => s.gv
    | none => givT S h p

theorem givT_mem {S : List Nd} : ∀ {h p : Nat} {c : Int}, c ∈ givT S h p → ∃ H s, H < h ∧ s ∈ slotsF S H ∧ s.pl = (p : Int) ∧ c ∈ s.gv
  | 0, _, _, hc => by cases hc
  | h + 1, p, c, hc => by
    unfold givT at hc
    split at hc
    · rename_i s hs
      exact ⟨h, s, by omega, List.mem_of_find?_eq_some hs, by have := List.find?_some hs; simpa using this, hc⟩
    · obtain ⟨H, s, h1, h2⟩ := givT_mem hc
      exact ⟨H, s, by omega, h2⟩

theorem givT_shape {S : List Nd} : ∀ {h p : Nat}, givT S h p = [] ∨ ∃ H s, H < h ∧ s ∈ slotsF S H ∧ givT S h p = s.gv
  | 0, _ => Or.inl rfl
  | h + 1, p => by
    unfold givT
    split
    · rename_i s hs
      exact Or.inr ⟨h, s, by omega, List.mem_of_find?_eq_some hs, rfl⟩
    · rcases givT_shape (S := S) (h := h) (p := p) with e | ⟨H, s, h1, h2⟩
      · exact Or.inl e
      · exact Or.inr ⟨H, s, by omega, h2⟩

theorem slotsF_mem {S : List Nd} (h : WF S) {H : Nat} {s : Slt} (hs : s ∈ slotsF S H) : ∃ r k j : Nat, r < S.length ∧ (nd S r).h = H ∧ rootE S H = r ∧ s.pl = k ∧ k < S.length ∧ Up S j k r ∧ s.num = numF S s.pl ∧ 0 ≤ s.num ∧ (s.gv = [] ∨ s.gv = markedF S H s.num) ∧ s ∈ slotsL S H (orderF S S.length r) := by
  unfold slotsF at hs
  split at hs
  · cases hs
  · rename_i hr
    obtain ⟨r, h1, h2, h3, _⟩ := rootE_cases S H hr
    rw [h2, Int.toNat_natCast] at hs
    obtain ⟨m1, m2, m3, m4⟩ := slots_mem _ s hs
    obtain ⟨q, e, hq, _, j, _, hu⟩ := mem_order h h1 (h.deep_all h1) _ m1
    exact ⟨r, q, j, h1, h3, h2, e, hq, hu, m2, m3, m4, hs⟩

theorem giv_ok {S : List Nd} (h : WF S) : GivOk S (givT S S.length) where
  some := fun p hp c hc => by
    obtain ⟨H, s, h1, h2, h3, h4⟩ := givT_mem hc
    obtain ⟨r, k, j, r1, r2, _, r3, r4, r5, _, _, r6, _⟩ := slotsF_mem h h2
    have : k = p := by omega
    subst this
    have e := r6.resolve_left (fun e => by rw [e] at h4; cases h4)
    rw [e] at h4
    exact ⟨H, r, j, h1, r1, r2, r5, (mem_marked.1 h4).1⟩
  one := fun p p' c hp hp' hc hc' => by
    obtain ⟨H, s, h1, h2, h3, h4⟩ := givT_mem hc
    obtain ⟨H', s', h1', h2', h3', h4'⟩ := givT_mem hc'
    obtain ⟨r, _, _, r1, r2, rr, _, _, _, _, _, r6, r7⟩ := slotsF_mem h h2
    obtain ⟨r', _, _, r1', r2', rr', _, _, _, _, _, r6', r7'⟩ := slotsF_mem h h2'
    have e := r6.resolve_left (fun e => by rw [e] at h4; cases h4)
    have e' := r6'.resolve_left (fun e => by rw [e] at h4'; cases h4')
    have k1 := h4
    have k2 := h4'
    rw [e] at k1
    rw [e'] at k2
    obtain ⟨k, ek, _, _, p1, _⟩ := h.kid h1 (mem_marked.1 k1).1
    obtain ⟨k', ek', _, _, p2, _⟩ := h.kid h1' (mem_marked.1 k2).1
    have : k = k' := by omega
    subst this
    have : H = H' := by omega
    subst this
    have : r = r' := by omega
    subst this
    have := slots_one r7 r7' h4 h4'
    subst this
    omega
  nodup := fun p hp => by
    rcases givT_shape (S := S) (h := S.length) (p := p) with e | ⟨H, s, h1, h2, e⟩
    · rw [e]; exact List.nodup_nil
    · rw [e]
      obtain ⟨_, _, _, _, _, _, _, _, _, _, _, r6, _⟩ := slotsF_mem h h2
      rcases r6 with e2 | e2
      · rw [e2]; exact List.nodup_nil
      · rw [e2]
        unfold markedF flt
        exact (h.kids_nodup h1).filter _

theorem nodup_filter_pl {S : List Nd} (h : WF S) {H : Nat} : ((slotsF S H).map Slt.pl).Nodup := by
  unfold slotsF
  split
  · exact List.nodup_nil
  · rename_i hr
    obtain ⟨r, h1, h2, _⟩ := rootE_cases S H hr
    rw [h2, Int.toNat_natCast, slots_pls]
    exact (nodup_order h h1 (Nat.le_refl _) (h.deep_all h1)).filter _

/-- One slot more is written down. -/
theorem givI_step {S : List Nd} {h : Nat} {L : List Slt} (hn : (L.map Slt.pl).Nodup) {i : Nat} (hi : i < L.length) (p : Nat) : givI S h (L.take (i + 1)) p = if L[i].pl = (p : Int) then L[i].gv else givI S h (L.take i) p := by
  unfold givI
  rw [List.take_succ_eq_append_getElem hi, List.find?_append]
  by_cases e : L[i].pl = (p : Int)
  · rw [if_pos e]
    have hnone : (L.take i).find? (fun s => decide (s.pl = (p : Int))) = none := by
      rw [List.find?_eq_none]
      intro s hs hd
      have hd' := of_decide_eq_true hd
      obtain ⟨j, hj, rfl⟩ := List.getElem_of_mem hs
      rw [List.length_take] at hj
      rw [List.getElem_take] at hd'
      have := (List.nodup_iff_pairwise_ne.1 hn)
      rw [List.pairwise_iff_getElem] at this
      have := this j i (by rw [List.length_map]; omega) (by rw [List.length_map]; omega) (by omega)
      rw [List.getElem_map, List.getElem_map] at this
      exact this (hd'.trans e.symm)
    rw [hnone]
    simp [e]
  · rw [if_neg e]
    cases (L.take i).find? (fun s => decide (s.pl = (p : Int))) <;> simp [e]

theorem giv_small {S : List Nd} (h : WF S) {h' p : Nat} (hh : h' ≤ S.length) : (givT S h' p).length ≤ 24 ∧ ∀ c ∈ givT S h' p, ∃ k : Nat, c = k ∧ k < S.length := by
  have hs := h.small
  rcases givT_shape (S := S) (h := h') (p := p) with e | ⟨H, s, h1, h2, e⟩
  · rw [e]; exact ⟨by simp, fun c hc => by cases hc⟩
  · rw [e]
    obtain ⟨_, _, _, _, _, _, _, _, _, _, _, r6, _⟩ := slotsF_mem h h2
    rcases r6 with e2 | e2
    · rw [e2]; exact ⟨by simp, fun c hc => by cases hc⟩
    · rw [e2]
      have hm : ∀ c ∈ markedF S H s.num, ∃ k : Nat, c = k ∧ k < S.length := fun c hc => by
        obtain ⟨k, e, hk, _⟩ := h.kid (by omega) (mem_marked.1 hc).1
        exact ⟨k, e, hk⟩
      refine ⟨?_, hm⟩
      have hnd : (markedF S H s.num).Nodup := by unfold markedF flt; exact (h.kids_nodup (by omega)).filter _
      have := hnd.length_le_of_subset (l₂ := (List.range S.length).map (fun i : Nat => (i : Int))) (fun x hx => by
        obtain ⟨k, rfl, hk⟩ := hm x hx
        exact List.mem_map.2 ⟨k, List.mem_range.2 hk, rfl⟩)
      simp at this
      omega
end Go.Proofs.Ythlpkdmmkfhleac
