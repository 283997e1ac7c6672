/-
  The contracts of testIsSo, and of the closure by which isSo sifts: is a test so of a node?
-/
import Derived.Test.YtgjfmepbphfjoaaGreatUUbWbWdSr
import Derived.Test.YtgjfmepbphfjoaaGreatUQa
import Derived.Deep.RegionHeld3
import Derived.Test.YtgjfmepbphfjoaaGreatUTmTnZpLb
namespace Go.Proofs.YtgjfmepbphfjoaaGreat
open Go.RowKit

set_option maxHeartbeats 1000000 in
theorem testIsSo_any (T M : Int) (near : Bool) (x : Nd) (k : Value) (w : World) :
    Calls Tryz.prog 140 #[.agg #[.int .i64 T, .int .i64 M, .bool near], .agg #[.bool x.u, .int .i64 x.n, .int .i64 x.t, .int .i64 x.m, .int .i64 x.p, k, .int .i64 x.h, .bool x.c]] w fun e w' => e = .returned (.bool (testB T M x)) ∧ Below w.heap.size w w' := by
  obtain ⟨xu, xn, xt, xm, xp, xks, xh, xc⟩ := x
  unfold testB
  dsimp only
  by_cases h1 : T = -1000001
  · subst h1
    simp only [decide_true, Bool.true_or, Bool.true_and]
    by_cases h3 : M = -1000001
    · subst h3
      simp only [decide_true, Bool.true_or]
      go_enter Tryz.func140, Tryz.ntmps140
      go_wp2
      go_ret
      exact ⟨rfl, ((Below.refl _ _).alloc (Nat.le_refl _) _).alloc (by simp) _⟩
    · have e3 : (M == -1000001) = false := beq_eq_false_iff_ne.2 h3
      rw [decide_eq_false h3, Bool.false_or]
      by_cases h4 : M = xm
      · subst h4
        simp only [decide_true]
        go_enter Tryz.func140, Tryz.ntmps140
        go_wp2
        go_ret
        exact ⟨by simp, ((Below.refl _ _).alloc (Nat.le_refl _) _).alloc (by simp) _⟩
      · have e4 : (M == xm) = false := beq_eq_false_iff_ne.2 h4
        rw [decide_eq_false h4]
        go_enter Tryz.func140, Tryz.ntmps140
        go_wp2
        go_ret
        refine ⟨?_, ((Below.refl _ _).alloc (Nat.le_refl _) _).alloc (by simp) _⟩
        first
          | rfl
          | simp [e4]
  · have e1 : (T == -1000001) = false := beq_eq_false_iff_ne.2 h1
    rw [decide_eq_false h1, Bool.false_or]
    by_cases h2 : T = xt
    · subst h2
      simp only [decide_true, Bool.true_and]
      by_cases h3 : M = -1000001
      · subst h3
        simp only [decide_true, Bool.true_or]
        go_enter Tryz.func140, Tryz.ntmps140
        go_wp2
        go_ret
        exact ⟨rfl, ((Below.refl _ _).alloc (Nat.le_refl _) _).alloc (by simp) _⟩
      · have e3 : (M == -1000001) = false := beq_eq_false_iff_ne.2 h3
        rw [decide_eq_false h3, Bool.false_or]
        by_cases h4 : M = xm
        · subst h4
          simp only [decide_true]
          go_enter Tryz.func140, Tryz.ntmps140
          go_wp2
          go_ret
          exact ⟨by simp, ((Below.refl _ _).alloc (Nat.le_refl _) _).alloc (by simp) _⟩
        · have e4 : (M == xm) = false := beq_eq_false_iff_ne.2 h4
          rw [decide_eq_false h4]
          go_enter Tryz.func140, Tryz.ntmps140
          go_wp2
          go_ret
          refine ⟨?_, ((Below.refl _ _).alloc (Nat.le_refl _) _).alloc (by simp) _⟩
          first
            | rfl
            | simp [e4]
    · have e2 : (T == xt) = false := beq_eq_false_iff_ne.2 h2
      rw [decide_eq_false h2, Bool.false_and]
      go_enter Tryz.func140, Tryz.ntmps140
      go_wp2
      go_ret
      exact ⟨rfl, ((Below.refl _ _).alloc (Nat.le_refl _) _).alloc (by simp) _⟩

set_option maxHeartbeats 1000000 in
theorem sift_any (a : Option Addr) (c : Nat) (S : List Nd) (T M : Int) (near : Bool) (bt bs : Nat) (k : Nat) (w : World) (hk : k < S.length) (hS : NdsAt w a S) (ht0 : w.cell? ⟨bt, 0, none⟩ = some (.int .i64 T)) (ht1 : w.cell? ⟨bt, 1, none⟩ = some (.int .i64 M)) (ht2 : w.cell? ⟨bt, 2, none⟩ = some (.bool near)) (hs : w.cell? ⟨bs, 0, none⟩ = some (.slice a S.length c)) :
    Calls Tryz.prog 139 #[.int .i64 (k : Int), .pointer (some ⟨bt, 0, none⟩), .pointer (some ⟨bs, 0, none⟩)] w fun e w' => e = .returned (.bool (!testB T M (nd S k))) ∧ Below w.heap.size w w' := by
  have hk2 : (k : Int) < (S.length : Int) := by omega
  obtain ⟨b, o, rfl, c0, c1, c2, c3, c4, ⟨ka, kc, c5, _⟩, c6, c7⟩ := hS k hk
  have d1 := fun v W => testIsSo_any T M near (nd S k) v W
  clear hS
  generalize testB T M (nd S k) = r at *
  generalize nd S k = x at *
  generalize S.length = n at *
  go_enter Tryz.func139, Tryz.ntmps139
  go_wp2_with fail
  go_region_held3 (fun w'' => w''.cell? ⟨bt, 0, none⟩ = some (.int .i64 T) ∧ w''.cell? ⟨bt, 1, none⟩ = some (.int .i64 M) ∧ w''.cell? ⟨bt, 2, none⟩ = some (.bool near) ∧ w''.cell? ⟨bs, 0, none⟩ = some (.slice (some ⟨b, o, none⟩) n c) ∧ w''.cell? ⟨b, o + k * 8, none⟩ = some (.bool x.u) ∧ w''.cell? ⟨b, o + k * 8 + 1, none⟩ = some (.int .i64 x.n) ∧ w''.cell? ⟨b, o + k * 8 + 2, none⟩ = some (.int .i64 x.t) ∧ w''.cell? ⟨b, o + k * 8 + 3, none⟩ = some (.int .i64 x.m) ∧ w''.cell? ⟨b, o + k * 8 + 4, none⟩ = some (.int .i64 x.p) ∧ w''.cell? ⟨b, o + k * 8 + 5, none⟩ = some (.slice ka x.ks.length kc) ∧ w''.cell? ⟨b, o + k * 8 + 6, none⟩ = some (.int .i64 x.h) ∧ w''.cell? ⟨b, o + k * 8 + 7, none⟩ = some (.bool x.c)) (go_keep) (first | (go_at_call 140; refine (d1 _ _).mono ?_; rintro e w2 ⟨rfl, hb2⟩; have hb22 : Below w.heap.size w w2 := ((Below.refl _ _).drew).trans hb2; have m0 := (hb22.cell (World.block_lt_of_cell? _ _ ht0)).trans ht0; have m1 := (hb22.cell (World.block_lt_of_cell? _ _ ht1)).trans ht1; have m2 := (hb22.cell (World.block_lt_of_cell? _ _ ht2)).trans ht2; have m3 := (hb22.cell (World.block_lt_of_cell? _ _ hs)).trans hs; have n0 := (hb22.cell (World.block_lt_of_cell? _ _ c0)).trans c0; have n1 := (hb22.cell (World.block_lt_of_cell? _ _ c1)).trans c1; have n2 := (hb22.cell (World.block_lt_of_cell? _ _ c2)).trans c2; have n3 := (hb22.cell (World.block_lt_of_cell? _ _ c3)).trans c3; have n4 := (hb22.cell (World.block_lt_of_cell? _ _ c4)).trans c4; have n5 := (hb22.cell (World.block_lt_of_cell? _ _ c5)).trans c5; have n6 := (hb22.cell (World.block_lt_of_cell? _ _ c6)).trans c6; have n7 := (hb22.cell (World.block_lt_of_cell? _ _ c7)).trans c7; clear hb2))
  all_goals go_wp2
  all_goals go_ret
  all_goals exact ⟨rfl, hb22⟩
end Go.Proofs.YtgjfmepbphfjoaaGreat

namespace Go.Proofs.YtgjfmepbphfjoaaGreat
open Go.RowKit

structure Slt where
  pl : Int
  num : Int
  gv : List Int

def numF (S : List Nd) (x : Int) : Int := (nd S x.toNat).t - 90
def slotStep (S : List Nd) (H : Nat) (out : List Slt) (x : Int) : List Slt :=
  if numF S x < 0 then out else out ++ [⟨x, numF S x, if out.any (fun s => decide (s.num = numF S x)) then [] else markedF S H (numF S x)⟩]
def slotsL (S : List Nd) (H : Nat) (l : List Int) : List Slt := l.foldl (slotStep S H) []
def slotsF (S : List Nd) (H : Nat) : List Slt := if rootE S H = -1 then [] else slotsL S H (orderF S S.length (rootE S H).toNat)

theorem mem_marked {S : List Nd} {H : Nat} {mk x : Int} : x ∈ markedF S H mk ↔ x ∈ (nd S H).ks ∧ (nd S x.toNat).m = mk := by
  unfold markedF
  rw [mem_flt]
  unfold notMarkB
  simp

theorem slotsL_snoc (S : List Nd) (H : Nat) (l : List Int) (x : Int) : slotsL S H (l ++ [x]) = slotStep S H (slotsL S H l) x := by
  unfold slotsL
  rw [List.foldl_append]
  rfl

theorem list_snoc_ind {α : Type} {P : List α → Prop} (h0 : P []) (h1 : ∀ l x, P l → P (l ++ [x])) (l : List α) : P l := by
  have : ∀ n, ∀ l : List α, l.length = n → P l := by
    intro n
    induction n with
    | zero => intro l hl; cases l with | nil => exact h0 | cons => cases hl
    | succ n ih =>
      intro l hl
      have hne : l ≠ [] := by intro e; subst e; cases hl
      rw [← List.dropLast_concat_getLast hne]
      exact h1 _ _ (ih _ (by rw [List.length_dropLast]; omega))
  exact this _ l rfl

theorem slots_mem {S : List Nd} {H : Nat} (l : List Int) : ∀ s ∈ slotsL S H l, s.pl ∈ l ∧ s.num = numF S s.pl ∧ 0 ≤ s.num ∧ (s.gv = [] ∨ s.gv = markedF S H s.num) := by
  induction l using list_snoc_ind with
  | h0 => intro s hs; cases hs
  | h1 l x ih =>
    intro s hs
    rw [slotsL_snoc] at hs
    unfold slotStep at hs
    split at hs
    · obtain ⟨h1, h2⟩ := ih s hs
      exact ⟨List.mem_append_left _ h1, h2⟩
    · rename_i hn
      rcases List.mem_append.1 hs with hs | hs
      · obtain ⟨h1, h2⟩ := ih s hs
        exact ⟨List.mem_append_left _ h1, h2⟩
      · have e := List.mem_singleton.1 hs
        subst e
        refine ⟨by simp, rfl, by dsimp only; omega, ?_⟩
        dsimp only
        split
        · exact Or.inl rfl
        · exact Or.inr rfl

theorem slots_pls (S : List Nd) (H : Nat) (l : List Int) : (slotsL S H l).map Slt.pl = l.filter (fun x => decide (0 ≤ numF S x)) := by
  induction l using list_snoc_ind with
  | h0 => rfl
  | h1 l x ih =>
    rw [slotsL_snoc, List.filter_append, ← ih]
    unfold slotStep
    split
    · rename_i h
      have : ¬ 0 ≤ numF S x := by omega
      simp [this]
    · rename_i h
      have : 0 ≤ numF S x := by omega
      simp [this]

theorem slots_len (S : List Nd) (H : Nat) (l : List Int) : (slotsL S H l).length ≤ l.length := by
  have h := congrArg List.length (slots_pls S H l)
  rw [List.length_map] at h
  rw [h]
  exact List.length_filter_le _ _

theorem slots_pair (S : List Nd) (H : Nat) (l : List Int) : (slotsL S H l).Pairwise (fun s s' => s'.gv = [] ∨ s.num ≠ s'.num) := by
  induction l using list_snoc_ind with
  | h0 => exact List.Pairwise.nil
  | h1 l x ih =>
    rw [slotsL_snoc]
    unfold slotStep
    split
    · exact ih
    · rw [List.pairwise_append]
      refine ⟨ih, List.pairwise_singleton _ _, fun s hs s' hs' => ?_⟩
      have e := List.mem_singleton.1 hs'
      subst e
      dsimp only
      split
      · exact Or.inl rfl
      · rename_i hany
        right
        intro e
        exact hany (List.any_eq_true.2 ⟨s, hs, decide_eq_true e⟩)

/-- Who is given to a slot is given to no other one. -/
theorem slots_one {S : List Nd} {H : Nat} {l : List Int} {s s' : Slt} (hs : s ∈ slotsL S H l) (hs' : s' ∈ slotsL S H l) {c : Int} (hc : c ∈ s.gv) (hc' : c ∈ s'.gv) : s = s' := by
  obtain ⟨_, _, _, h1⟩ := slots_mem l s hs
  obtain ⟨_, _, _, h2⟩ := slots_mem l s' hs'
  have n1 : s.gv ≠ [] := fun e => by rw [e] at hc; cases hc
  have n2 : s'.gv ≠ [] := fun e => by rw [e] at hc'; cases hc'
  have e1 := h1.resolve_left n1
  have e2 := h2.resolve_left n2
  rw [e1] at hc
  rw [e2] at hc'
  have m1 := (mem_marked.1 hc).2
  have m2 := (mem_marked.1 hc').2
  have hp := slots_pair S H l
  obtain ⟨i, hi, rfl⟩ := List.getElem_of_mem hs
  obtain ⟨j, hj, rfl⟩ := List.getElem_of_mem hs'
  rw [List.pairwise_iff_getElem] at hp
  rcases Nat.lt_trichotomy i j with hlt | e | hlt
  · rcases hp i j hi hj hlt with h | h
    · exact absurd h n2
    · exact absurd (m1.symm.trans m2) h
  · subst e; rfl
  · rcases hp j i hj hi hlt with h | h
    · exact absurd h n1
    · exact absurd (m2.symm.trans m1) h

/-- What the slot at a place is given, of the hosts below h. -/
def givT (S : List Nd) : Nat → Nat → List Int
  | 0, _ => []
  | h + 1, p => match (slotsF S h).find? (fun s => decide (s.pl = (p : Int))) with
    | some s => s.gv
    | none => givT S h p
def givI (S : List Nd) (h : Nat) (L : List Slt) (p : Nat) : List Int := match L.find? (fun s => decide (s.pl = (p : Int))) with
    | some s => s.gv
    | none => givT S h p

theorem givT_mem {S : List Nd} : ∀ {h p : Nat} {c : Int}, c ∈ givT S h p → ∃ H s, H < h ∧ s ∈ slotsF S H ∧ s.pl = (p : Int) ∧ c ∈ s.gv
  | 0, _, _, hc => by cases hc
  | h + 1, p, c, hc => by
    unfold givT at hc
    split at hc
    · rename_i s hs
      exact ⟨h, s, by omega, List.mem_of_find?_eq_some hs, by have := List.find?_some hs; simpa using this, hc⟩
    · obtain ⟨H, s, h1, h2⟩ := givT_mem hc
      exact ⟨H, s, by omega, h2⟩

theorem givT_shape {S : List Nd} : ∀ {h p : Nat}, givT S h p = [] ∨ ∃ H s, H < h ∧ s ∈ slotsF S H ∧ givT S h p = s.gv
  | 0, _ => Or.inl rfl
  | h + 1, p => by
    unfold givT
    split
    · rename_i s hs
      exact Or.inr ⟨h, s, by omega, List.mem_of_find?_eq_some hs, rfl⟩
    · rcases givT_shape (S := S) (h := h) (p := p) with e | ⟨H, s, h1, h2⟩
      · exact Or.inl e
      · exact Or.inr ⟨H, s, by omega, h2⟩

theorem slotsF_mem {S : List Nd} (h : WF S) {H : Nat} {s : Slt} (hs : s ∈ slotsF S H) : ∃ r k j : Nat, r < S.length ∧ (nd S r).h = H ∧ rootE S H = r ∧ s.pl = k ∧ k < S.length ∧ Up S j k r ∧ s.num = numF S s.pl ∧ 0 ≤ s.num ∧ (s.gv = [] ∨ s.gv = markedF S H s.num) ∧ s ∈ slotsL S H (orderF S S.length r) := by
  unfold slotsF at hs
  split at hs
  · cases hs
  · rename_i hr
    obtain ⟨r, h1, h2, h3, _⟩ := rootE_cases S H hr
    rw [h2, Int.toNat_natCast] at hs
    obtain ⟨m1, m2, m3, m4⟩ := slots_mem _ s hs
    obtain ⟨q, e, hq, _, j, _, hu⟩ := mem_order h h1 (h.deep_all h1) _ m1
    exact ⟨r, q, j, h1, h3, h2, e, hq, hu, m2, m3, m4, hs⟩

theorem giv_ok {S : List Nd} (h : WF S) : GivOk S (givT S S.length) where
  some := fun p hp c hc => by
    obtain ⟨H, s, h1, h2, h3, h4⟩ := givT_mem hc
    obtain ⟨r, k, j, r1, r2, _, r3, r4, r5, _, _, r6, _⟩ := slotsF_mem h h2
    have : k = p := by omega
    subst this
    have e := r6.resolve_left (fun e => by rw [e] at h4; cases h4)
    rw [e] at h4
    exact ⟨H, r, j, h1, r1, r2, r5, (mem_marked.1 h4).1⟩
  one := fun p p' c hp hp' hc hc' => by
    obtain ⟨H, s, h1, h2, h3, h4⟩ := givT_mem hc
    obtain ⟨H', s', h1', h2', h3', h4'⟩ := givT_mem hc'
    obtain ⟨r, _, _, r1, r2, rr, _, _, _, _, _, r6, r7⟩ := slotsF_mem h h2
    obtain ⟨r', _, _, r1', r2', rr', _, _, _, _, _, r6', r7'⟩ := slotsF_mem h h2'
    have e := r6.resolve_left (fun e => by rw [e] at h4; cases h4)
    have e' := r6'.resolve_left (fun e => by rw [e] at h4'; cases h4')
    have k1 := h4
    have k2 := h4'
    rw [e] at k1
    rw [e'] at k2
    obtain ⟨k, ek, _, _, p1, _⟩ := h.kid h1 (mem_marked.1 k1).1
    obtain ⟨k', ek', _, _, p2, _⟩ := h.kid h1' (mem_marked.1 k2).1
    have : k = k' := by omega
    subst this
    have : H = H' := by omega
    subst this
    have : r = r' := by omega
    subst this
    have := slots_one r7 r7' h4 h4'
    subst this
    omega
  nodup := fun p hp => by
    rcases givT_shape (S := S) (h := S.length) (p := p) with e | ⟨H, s, h1, h2, e⟩
    · rw [e]; exact List.nodup_nil
    · rw [e]
      obtain ⟨_, _, _, _, _, _, _, _, _, _, _, r6, _⟩ := slotsF_mem h h2
      rcases r6 with e2 | e2
      · rw [e2]; exact List.nodup_nil
      · rw [e2]
        unfold markedF flt
        exact (h.kids_nodup h1).filter _

theorem nodup_filter_pl {S : List Nd} (h : WF S) {H : Nat} : ((slotsF S H).map Slt.pl).Nodup := by
  unfold slotsF
  split
  · exact List.nodup_nil
  · rename_i hr
    obtain ⟨r, h1, h2, _⟩ := rootE_cases S H hr
    rw [h2, Int.toNat_natCast, slots_pls]
    exact (nodup_order h h1 (Nat.le_refl _) (h.deep_all h1)).filter _

/-- One slot more is written down. -/
theorem givI_step {S : List Nd} {h : Nat} {L : List Slt} (hn : (L.map Slt.pl).Nodup) {i : Nat} (hi : i < L.length) (p : Nat) : givI S h (L.take (i + 1)) p = if L[i].pl = (p : Int) then L[i].gv else givI S h (L.take i) p := by
  unfold givI
  rw [List.take_succ_eq_append_getElem hi, List.find?_append]
  by_cases e : L[i].pl = (p : Int)
  · rw [if_pos e]
    have hnone : (L.take i).find? (fun s => decide (s.pl = (p : Int))) = none := by
      rw [List.find?_eq_none]
      intro s hs hd
      have hd' := of_decide_eq_true hd
      obtain ⟨j, hj, rfl⟩ := List.getElem_of_mem hs
      rw [List.length_take] at hj
      rw [List.getElem_take] at hd'
      have := (List.nodup_iff_pairwise_ne.1 hn)
      rw [List.pairwise_iff_getElem] at this
      have := this j i (by rw [List.length_map]; omega) (by rw [List.length_map]; omega) (by omega)
      rw [List.getElem_map, List.getElem_map] at this
      exact this (hd'.trans e.symm)
    rw [hnone]
    simp [e]
  · rw [if_neg e]
    cases (L.take i).find? (fun s => decide (s.pl = (p : Int))) <;> simp [e]

theorem giv_small {S : List Nd} (h : WF S) {h' p : Nat} (hh : h' ≤ S.length) : (givT S h' p).length ≤ 24 ∧ ∀ c ∈ givT S h' p, ∃ k : Nat, c = k ∧ k < S.length := by
  have hs := h.small
  rcases givT_shape (S := S) (h := h') (p := p) with e | ⟨H, s, h1, h2, e⟩
  · rw [e]; exact ⟨by simp, fun c hc => by cases hc⟩
  · rw [e]
    obtain ⟨_, _, _, _, _, _, _, _, _, _, _, r6, _⟩ := slotsF_mem h h2
    rcases r6 with e2 | e2
    · rw [e2]; exact ⟨by simp, fun c hc => by cases hc⟩
    · rw [e2]
      have hm : ∀ c ∈ markedF S H s.num, ∃ k : Nat, c = k ∧ k < S.length := fun c hc => by
        obtain ⟨k, e, hk, _⟩ := h.kid (by omega) (mem_marked.1 hc).1
        exact ⟨k, e, hk⟩
      refine ⟨?_, hm⟩
      have hnd : (markedF S H s.num).Nodup := by unfold markedF flt; exact (h.kids_nodup (by omega)).filter _
      have := hnd.length_le_of_subset (l₂ := (List.range S.length).map (fun i : Nat => (i : Int))) (fun x hx => by
        obtain ⟨k, rfl, hk⟩ := hm x hx
        exact List.mem_map.2 ⟨k, List.mem_range.2 hk, rfl⟩)
      simp at this
      omega
end Go.Proofs.YtgjfmepbphfjoaaGreat

namespace Go.Proofs.YtgjfmepbphfjoaaGreat
open Go.RowKit

def slt (L : List Slt) (i : Nat) : Slt := L.getD i ⟨0, 0, []⟩

/-- A row of slots, as it reads. -/
def SltsAt (w : World) (a : Option Addr) (L : List Slt) : Prop :=
  ∀ i, i < L.length → ∃ b o, a = some ⟨b, o, none⟩ ∧ w.cell? ⟨b, o + i * 3, none⟩ = some (.int .i64 (slt L i).pl) ∧ w.cell? ⟨b, o + i * 3 + 1, none⟩ = some (.int .i64 (slt L i).num) ∧ ∃ ga gc, w.cell? ⟨b, o + i * 3 + 2, none⟩ = some (.slice ga (slt L i).gv.length gc) ∧ IntsAt w ga (slt L i).gv

theorem SltsAt.below {w w' : World} {a : Option Addr} {L : List Slt} (h : SltsAt w a L) (hb : Below w.heap.size w w') : SltsAt w' a L := fun i hi => by
  obtain ⟨b, o, e, h1, h2, ga, gc, h3, h4⟩ := h i hi
  have hlt : b < w.heap.size := World.block_lt_of_cell? _ _ h1
  exact ⟨b, o, e, (hb.cell (by exact hlt)).trans h1, (hb.cell (by exact hlt)).trans h2, ga, gc, (hb.cell (by exact hlt)).trans h3, h4.below hb⟩

theorem slt_elem {L : List Slt} {i : Nat} (h : i < L.length) : slt L i = L[i] := getD_elem L _ h

/-- What is asked of a function value that tells yes or no of a slot. -/
def TellsS (K : Nat) (caps : Array Value) (p : Slt → Bool) (w : World) : Prop :=
  ∀ (x : Slt) (k : Value) (w1 : World), Below w.heap.size w w1 → Calls Tryz.prog K (#[.agg #[.int .i64 x.pl, .int .i64 x.num, k]] ++ caps) w1 fun e w2 => e = .returned (.bool (p x)) ∧ Below w1.heap.size w1 w2

set_option maxHeartbeats 800000 in
theorem indexSl_any (K : Nat) (caps : Array Value) (p : Slt → Bool) (a : Option Addr) (c : Nat) (L : List Slt) (w : World) (hbig : L.length ≤ 9223372036854775807) (hL : SltsAt w a L)
    (eg : ∀ args w, (callFunc K args).run Tryz.prog w = .ok (.enter K args) w) (hf : TellsS K caps p w) :
    Calls Tryz.prog 153 #[.slice a L.length c, .func (.func K) #[] caps] w fun e w' => ∃ r : Int, e = .returned (.int .i64 r) ∧ Below w.heap.size w w' ∧
      ((r = -1 ∧ ∀ i, i < L.length → p (slt L i) = false) ∨ (∃ k : Nat, k < L.length ∧ r = k ∧ p (slt L k) = true ∧ ∀ i, i < k → p (slt L i) = false)) := by
  have HS : Hid (SltsAt w a L) := hL
  have HF : Hid (TellsS K caps p w) := hf
  clear hL hf
  generalize hn : L.length = n at *
  have HN : Hid _ := hn
  clear hn
  go_enter Tryz.func153, Tryz.ntmps153
  go_wp2
  go_loopg [8] n (fun g s8 wr => ∃ k : Nat, k ≤ n ∧ n - k ≤ g ∧ s8 = .int .i64 k ∧ Below w.heap.size w wr ∧ Hid (∀ i, i < k → p (slt L i) = false))
  case atStart => exact ⟨0, by omega, by omega, rfl, Below.refl _ _, fun i hi => by omega⟩
  case round =>
    obtain ⟨k, hk, hg, rfl, hb, A⟩ := hrel
    by_cases hlt : k < n
    · have hlt2 : (k : Int) < (n : Int) := by omega
      obtain ⟨b, o, rfl, c0, c1, ka, kc, c2, _⟩ := (HS.out.below hb) k (by rw [HN.out]; exact hlt)
      have hcall := fun v => HF.out (slt L k) v wr hb
      cases hq : p (slt L k) with
      | true =>
        have HQ : Hid (p (slt L k) = true) := hq
        rw [hq] at hcall
        clear hq
        generalize hx : slt L k = x at hcall c0 c1 c2
        clear hx
        go_wp2_with (go_at_fn K; refine (hcall _).mono ?_; rintro e w' ⟨rfl, hb2⟩)
        go_ret
        exact ⟨k, rfl, hb.trans (hb2.mono hb.size), Or.inr ⟨k, hlt, rfl, HQ.out, A.out⟩⟩
      | false =>
        have HQ : Hid (p (slt L k) = false) := hq
        rw [hq] at hcall
        clear hq
        generalize hx : slt L k = x at hcall c0 c1 c2
        clear hx
        go_wp2_with (go_at_fn K; refine (hcall _).mono ?_; rintro e w' ⟨rfl, hb2⟩)
        go_roundg (n - (k + 1))
        case measure => omega
        case rel =>
          refine ⟨k + 1, by omega, by omega, by go_num, hb.trans (hb2.mono hb.size), (show Hid _ from fun i hi => ?_)⟩
          by_cases e : i = k
          · subst e
            exact HQ.out
          · exact A.out i (by omega)
    · have : k = n := by omega
      subst this
      go_wp2
      go_ret
      exact ⟨-1, rfl, hb, Or.inl ⟨rfl, A.out⟩⟩

set_option maxHeartbeats 400000 in
theorem containsSl_any (K : Nat) (caps : Array Value) (p : Slt → Bool) (a : Option Addr) (c : Nat) (L : List Slt) (w : World) (hbig : L.length ≤ 9223372036854775807) (hL : SltsAt w a L)
    (eg : ∀ args w, (callFunc K args).run Tryz.prog w = .ok (.enter K args) w) (hf : TellsS K caps p w) :
    Calls Tryz.prog 148 #[.slice a L.length c, .func (.func K) #[] caps] w fun e w' => e = .returned (.bool (L.any p)) ∧ Below w.heap.size w w' := by
  have h := indexSl_any K caps p a c L w hbig hL eg hf
  have any_of : ∀ k, k < L.length → p (slt L k) = true → L.any p = true := fun k hk hp => List.any_eq_true.2 ⟨slt L k, by rw [slt_elem hk]; exact List.getElem_mem hk, hp⟩
  have none_of : (∀ i, i < L.length → p (slt L i) = false) → L.any p = false := fun H => by
    rw [List.any_eq_false]
    intro x hx
    obtain ⟨i, hi, rfl⟩ := List.getElem_of_mem hx
    have := H i hi
    rw [slt_elem hi] at this
    simp [this]
  have H : Hid _ := any_of
  have N : Hid _ := none_of
  clear any_of none_of hL hf
  go_enter Tryz.func148, Tryz.ntmps148
  go_wp2_with (go_at_call 153; refine h.mono ?_; rintro e w' ⟨r, rfl, hb, hr⟩)
  go_ret
  refine ⟨?_, hb⟩
  rcases hr with ⟨rfl, hall⟩ | ⟨k, hk, rfl, hp, _⟩
  · rw [N.out hall]; rfl
  · rw [H.out k hk hp]
    simp

set_option maxHeartbeats 400000 in
theorem slotsOf1_any (x : Slt) (k : Value) (q : Nat) (y : Int) (w : World) (hq : w.cell? ⟨q, 0, none⟩ = some (.int .i64 y)) :
    Calls Tryz.prog 149 #[.agg #[.int .i64 x.pl, .int .i64 x.num, k], .pointer (some ⟨q, 0, none⟩)] w fun e w' => e = .returned (.bool (decide (x.num = y))) ∧ Below w.heap.size w w' := by
  obtain ⟨pl, num, gv⟩ := x
  dsimp only
  have hql := World.block_lt_of_cell? _ _ hq
  by_cases e : num = y
  · subst e
    rw [decide_eq_true rfl]
    go_enter Tryz.func149, Tryz.ntmps149
    go_wp2
    go_ret
    exact ⟨rfl, (Below.refl _ _).alloc (Nat.le_refl _) _⟩
  · rw [decide_eq_false e]
    have e2 : (num == y) = false := by simpa using e
    go_enter Tryz.func149, Tryz.ntmps149
    go_wp2
    go_ret
    exact ⟨rfl, (Below.refl _ _).alloc (Nat.le_refl _) _⟩

/-- Is there a slot of this number? -/
theorem hasNum_any (a : Option Addr) (c : Nat) (L : List Slt) (q : Nat) (y : Int) (w : World) (hbig : L.length ≤ 9223372036854775807) (hL : SltsAt w a L) (hq : w.cell? ⟨q, 0, none⟩ = some (.int .i64 y)) :
    Calls Tryz.prog 148 #[.slice a L.length c, .func (.func 149) #[] #[.pointer (some ⟨q, 0, none⟩)]] w fun e w' => e = .returned (.bool (L.any fun s => decide (s.num = y))) ∧ Below w.heap.size w w' :=
  containsSl_any 149 _ (fun s => decide (s.num = y)) a c L w hbig hL (enters_of Tryz.func149 (by kernel_rfl) rfl) (fun x k w1 h1 => slotsOf1_any x k q y w1 ((h1.cell (by exact World.block_lt_of_cell? _ _ hq)).trans hq))
end Go.Proofs.YtgjfmepbphfjoaaGreat
