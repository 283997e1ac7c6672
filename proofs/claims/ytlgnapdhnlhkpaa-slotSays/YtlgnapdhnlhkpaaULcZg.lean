/-
  The slots of a root, and what is given to each, without the program.
-/
import Derived.Test.YtlgnapdhnlhkpaaUZpLbRzTm
import Derived.Test.YtlgnapdhnlhkpaaUZf
namespace Go.Proofs.Ytlgnapdhnlhkpaa
open Go.RowKit

structure Slt where
  pl : Int
  num : Int
  gv : List Int

def numF (S : List Nd) (x : Int) : Int := (nd S x.toNat).t - 90
def slotStep (S : List Nd) (H : Nat) (out : List Slt) (x : Int) : List Slt :=
  if numF S x < 0 then out else out ++ [⟨x, numF S x, if out.any (fun s => decide (s.num = numF S x)) then [] else markedF S H (numF S x)⟩]
def slotsL (S : List Nd) (H : Nat) (l : List Int) : List Slt := l.foldl (slotStep S H) []
def slotsF (S : List Nd) (H : Nat) : List Slt := if rootE S H = -1 then [] else slotsL S H (orderF S S.length (rootE S H).toNat)

theorem mem_marked {S : List Nd} {H : Nat} {mk x : Int} : x ∈ markedF S H mk ↔ x ∈ (nd S H).ks ∧ (nd S x.toNat).m = mk := by
  unfold markedF
  rw [mem_flt]
  unfold notMarkB
  simp

theorem slotsL_snoc (S : List Nd) (H : Nat) (l : List Int) (x : Int) : slotsL S H (l ++ [x]) = slotStep S H (slotsL S H l) x := by
  unfold slotsL
  rw [List.foldl_append]
  rfl

theorem list_snoc_ind {α : Type} {P : List α → Prop} (h0 : P []) (h1 : ∀ l x, P l → P (l ++ [x])) (l : List α) : P l := by
  have : ∀ n, ∀ l : List α, l.length = n → P l := by
    intro n
    induction n with
    | zero => intro l hl; cases l with | nil => exact h0 | cons => cases hl
    | succ n ih =>
      intro l hl
      have hne : l ≠ [] := by intro e; subst e; cases hl
      rw [← List.dropLast_concat_getLast hne]
      exact h1 _ _ (ih _ (by rw [List.length_dropLast]; omega))
  exact this _ l rfl

theorem slots_mem {S : List Nd} {H : Nat} (l : List Int) : ∀ s ∈ slotsL S H l, s.pl ∈ l ∧ s.num = numF S s.pl ∧ 0 ≤ s.num ∧ (s.gv = [] ∨ s.gv = markedF S H s.num) := by
  induction l using list_snoc_ind with
  | h0 => intro s hs; cases hs
  | h1 l x ih =>
    intro s hs
    rw [slotsL_snoc] at hs
    unfold slotStep at hs
    split at hs
    · obtain ⟨h1, h2⟩ := ih s hs
      exact ⟨List.mem_append_left _ h1, h2⟩
    · rename_i hn
      rcases List.mem_append.1 hs with hs | hs
      · obtain ⟨h1, h2⟩ := ih s hs
        exact ⟨List.mem_append_left _ h1, h2⟩
      · have e := List.mem_singleton.1 hs
        subst e
        refine ⟨by simp, rfl, by dsimp only; omega, ?_⟩
        dsimp only
        split
        · exact Or.inl rfl
        · exact Or.inr rfl

theorem slots_pls (S : List Nd) (H : Nat) (l : List Int) : (slotsL S H l).map Slt.pl = l.filter (fun x => decide (0 ≤ numF S x)) := by
  induction l using list_snoc_ind with
  | h0 => rfl
  | h1 l x ih =>
    rw [slotsL_snoc, List.filter_append, ← ih]
    unfold slotStep
    split
    · rename_i h
      have : ¬ 0 ≤ numF S x := by omega
      simp [this]
    · rename_i h
      have : 0 ≤ numF S x := by omega
      simp [this]

theorem slots_len (S : List Nd) (H : Nat) (l : List Int) : (slotsL S H l).length ≤ l.length := by
  have h := congrArg List.length (slots_pls S H l)
  rw [List.length_map] at h
  rw [h]
  exact List.length_filter_le _ _

theorem slots_pair (S : List Nd) (H : Nat) (l : List Int) : (slotsL S H l).Pairwise (fun s s' => s'.gv = [] ∨ s.num ≠ s'.num) := by
  induction l using list_snoc_ind with
  | h0 => exact List.Pairwise.nil
  | h1 l x ih =>
    rw [slotsL_snoc]
    unfold slotStep
    split
    · exact ih
    · rw [List.pairwise_append]
      refine ⟨ih, List.pairwise_singleton _ _, fun s hs s' hs' => ?_⟩
      have e := List.mem_singleton.1 hs'
      subst e
      dsimp only
      split
      · exact Or.inl rfl
      · rename_i hany
        right
        intro e
        exact hany (List.any_eq_true.2 ⟨s, hs, decide_eq_true e⟩)

/-- Who is given to a slot is given to no other one. -/
theorem slots_one {S : List Nd} {H : Nat} {l : List Int} {s s' : Slt} (hs : s ∈ slotsL S H l) (hs' : s' ∈ slotsL S H l) {c : Int} (hc : c ∈ s.gv) (hc' : c ∈ s'.gv) : s = s' := by
  obtain ⟨_, _, _, h1⟩ := slots_mem l s hs
  obtain ⟨_, _, _, h2⟩ := slots_mem l s' hs'
  have n1 : s.gv ≠ [] := fun e => by rw [e] at hc; cases hc
  have n2 : s'.gv ≠ [] := fun e => by rw [e] at hc'; cases hc'
  have e1 := h1.resolve_left n1
  have e2 := h2.resolve_left n2
  rw [e1] at hc
  rw [e2] at hc'
  have m1 := (mem_marked.1 hc).2
  have m2 := (mem_marked.1 hc').2
  have hp := slots_pair S H l
  obtain ⟨i, hi, rfl⟩ := List.getElem_of_mem hs
  obtain ⟨j, hj, rfl⟩ := List.getElem_of_mem hs'
  rw [List.pairwise_iff_getElem] at hp
  rcases Nat.lt_trichotomy i j with hlt | e | hlt
  · rcases hp i j hi hj hlt with h | h
    · exact absurd h n2
    · exact absurd (m1.symm.trans m2) h
  · subst e; rfl
  · rcases hp j i hj hi hlt with h | h
    · exact absurd h n1
    · exact absurd (m2.symm.trans m1) h

/-- What the slot at a place is given, of the hosts below h. -/
def givT (S : List Nd) : Nat → Nat → List Int
  | 0, _ => []
  | h + 1, p => match (slotsF S h).find? (fun s => decide (s.pl = (p : Int))) with
    | some s => s.gv
    | none => givT S h p
def givI (S : List Nd) (h : Nat) (L : List Slt) (p : Nat) : List Int := match L.find? (fun s => decide (s.pl = (p : Int))) with
    | some s => s.gv
    | none => givT S h p

theorem givT_mem {S : List Nd} : ∀ {h p : Nat} {c : Int}, c ∈ givT S h p → ∃ H s, H < h ∧ s ∈ slotsF S H ∧ s.pl = (p : Int) ∧ c ∈ s.gv
  | 0, _, _, hc => by cases hc
  | h + 1, p, c, hc => by
    unfold givT at hc
    split at hc
    · rename_i s hs
      exact ⟨h, s, by omega, List.mem_of_find?_eq_some hs, by have := List.find?_some hs; simpa using this, hc⟩
    · obtain ⟨H, s, h1, h2⟩ := givT_mem hc
      exact ⟨H, s, by omega, h2⟩

theorem givT_shape {S : List Nd} : ∀ {h p : Nat}, givT S h p = [] ∨ ∃ H s, H < h ∧ s ∈ slotsF S H ∧ givT S h p = s.gv
  | 0, _ => Or.inl rfl
  | h + 1, p => by
    unfold givT
    split
    · rename_i s hs
      exact Or.inr ⟨h, s, by omega, List.mem_of_find?_eq_some hs, rfl⟩
    · rcases givT_shape (S := S) (h := h) (p := p) with e | ⟨H, s, h1, h2⟩
      · exact Or.inl e
      · exact Or.inr ⟨H, s, by omega, h2⟩

theorem slotsF_mem {S : List Nd} (h : WF S) {H : Nat} {s : Slt} (hs : s ∈ slotsF S H) : ∃ r k j : Nat, r < S.length ∧ (nd S r).h = H ∧ rootE S H = r ∧ s.pl = k ∧ k < S.length ∧ Up S j k r ∧ s.num = numF S s.pl ∧ 0 ≤ s.num ∧ (s.gv = [] ∨ s.gv = markedF S H s.num) ∧ s ∈ slotsL S H (orderF S S.length r) := by
  unfold slotsF at hs
  split at hs
  · cases hs
  · rename_i hr
    obtain ⟨r, h1, h2, h3, _⟩ := rootE_cases S H hr
    rw [h2, Int.toNat_natCast] at hs
    obtain ⟨m1, m2, m3, m4⟩ := slots_mem _ s hs
    obtain ⟨q, e, hq, _, j, _, hu⟩ := mem_order h h1 (h.deep_all h1) _ m1
    exact ⟨r, q, j, h1, h3, h2, e, hq, hu, m2, m3, m4, hs⟩

theorem giv_ok {S : List Nd} (h : WF S) : GivOk S (givT S S.length) where
  some := fun p hp c hc => by
    obtain ⟨H, s, h1, h2, h3, h4⟩ := givT_mem hc
    obtain ⟨r, k, j, r1, r2, _, r3, r4, r5, _, _, r6, _⟩ := slotsF_mem h h2
    have : k = p := by omega
    subst this
    have e := r6.resolve_left (fun e => by rw [e] at h4; cases h4)
    rw [e] at h4
    exact ⟨H, r, j, h1, r1, r2, r5, (mem_marked.1 h4).1⟩
  one := fun p p' c hp hp' hc hc' => by
    obtain ⟨H, s, h1, h2, h3, h4⟩ := givT_mem hc
    obtain ⟨H', s', h1', h2', h3', h4'⟩ := givT_mem hc'
    obtain ⟨r, _, _, r1, r2, rr, _, _, _, _, _, r6, r7⟩ := slotsF_mem h h2
    obtain ⟨r', _, _, r1', r2', rr', _, _, _, _, _, r6', r7'⟩ := slotsF_mem h h2'
    have e := r6.resolve_left (fun e => by rw [e] at h4; cases h4)
    have e' := r6'.resolve_left (fun e => by rw [e] at h4'; cases h4')
    have k1 := h4
    have k2 := h4'
    rw [e] at k1
    rw [e'] at k2
    obtain ⟨k, ek, _, _, p1, _⟩ := h.kid h1 (mem_marked.1 k1).1
    obtain ⟨k', ek', _, _, p2, _⟩ := h.kid h1' (mem_marked.1 k2).1
    have : k = k' := by omega
    subst this
    have : H = H' := by omega
    subst this
    have : r = r' := by omega
    subst this
    have := slots_one r7 r7' h4 h4'
    subst this
    omega
  nodup := fun p hp => by
    rcases givT_shape (S := S) (h := S.length) (p := p) with e | ⟨H, s, h1, h2, e⟩
    · rw [e]; exact List.nodup_nil
    · rw [e]
      obtain ⟨_, _, _, _, _, _, _, _, _, _, _, r6, _⟩ := slotsF_mem h h2
      rcases r6 with e2 | e2
      · rw [e2]; exact List.nodup_nil
      · rw [e2]
        unfold markedF flt
        exact (h.kids_nodup h1).filter _

theorem nodup_filter_pl {S : List Nd} (h : WF S) {H : Nat} : ((slotsF S H).map Slt.pl).Nodup := by
  unfold slotsF
  split
  · exact List.nodup_nil
  · rename_i hr
    obtain ⟨r, h1, h2, _⟩ := rootE_cases S H hr
    rw [h2, Int.toNat_natCast, slots_pls]
    exact (nodup_order h h1 (Nat.le_refl _) (h.deep_all h1)).filter _

/-- One slot more is written down. -/
theorem givI_step {S : List Nd} {h : Nat} {L : List Slt} (hn : (L.map Slt.pl).Nodup) {i : Nat} (hi : i < L.length) (p : Nat) : givI S h (L.take (i + 1)) p = if L[i].pl = (p : Int) then L[i].gv else givI S h (L.take i) p := by
  unfold givI
  rw [List.take_succ_eq_append_getElem hi, List.find?_append]
  by_cases e : L[i].pl = (p : Int)
  · rw [if_pos e]
    have hnone : (L.take i).find? (fun s => decide (s.pl = (p : Int))) = none := by
      rw [List.find?_eq_none]
      intro s hs hd
      have hd' := of_decide_eq_true hd
      obtain ⟨j, hj, rfl⟩ := List.getElem_of_mem hs
      rw [List.length_take] at hj
      rw [List.getElem_take] at hd'
      have := (List.nodup_iff_pairwise_ne.1 hn)
      rw [List.pairwise_iff_getElem] at this
      have := this j i (by rw [List.length_map]; omega) (by rw [List.length_map]; omega) (by omega)
      rw [List.getElem_map, List.getElem_map] at this
      exact this (hd'.trans e.symm)
    rw [hnone]
    simp [e]
  · rw [if_neg e]
    cases (L.take i).find? (fun s => decide (s.pl = (p : Int))) <;> simp [e]

theorem giv_small {S : List Nd} (h : WF S) {h' p : Nat} (hh : h' ≤ S.length) : (givT S h' p).length ≤ 24 ∧ ∀ c ∈ givT S h' p, ∃ k : Nat, c = k ∧ k < S.length := by
  have hs := h.small
  rcases givT_shape (S := S) (h := h') (p := p) with e | ⟨H, s, h1, h2, e⟩
  · rw [e]; exact ⟨by simp, fun c hc => by cases hc⟩
  · rw [e]
    obtain ⟨_, _, _, _, _, _, _, _, _, _, _, r6, _⟩ := slotsF_mem h h2
    rcases r6 with e2 | e2
    · rw [e2]; exact ⟨by simp, fun c hc => by cases hc⟩
    · rw [e2]
      have hm : ∀ c ∈ markedF S H s.num, ∃ k : Nat, c = k ∧ k < S.length := fun c hc => by
        obtain ⟨k, e, hk, _⟩ := h.kid (by omega) (mem_marked.1 hc).1
        exact ⟨k, e, hk⟩
      refine ⟨?_, hm⟩
      have hnd : (markedF S H s.num).Nodup := by unfold markedF flt; exact (h.kids_nodup (by omega)).filter _
      have := hnd.length_le_of_subset (l₂ := (List.range S.length).map (fun i : Nat => (i : Int))) (fun x hx => by
        obtain ⟨k, rfl, hk⟩ := hm x hx
        exact List.mem_map.2 ⟨k, List.mem_range.2 hk, rfl⟩)
      simp at this
      omega
end Go.Proofs.Ytlgnapdhnlhkpaa

namespace Go.Proofs.Ytlgnapdhnlhkpaa
open Go.RowKit

theorem att_low {w w1 : World} {a : Option Addr} {n c : Nat} {p u : Int} (hb : Below (w.heap.size + 1 + 1 + 1 + 1) ((((w.alloc (.cells #[.slice a n c] 24)).alloc (.cells #[.int .i64 p, .int .i64 u] 26)).alloc (.cells #[.slice none 0 0] 24)).alloc (.cells #[.int .i64 0, .int .i64 0] 26)) w1) :
    w1.cell? ⟨w.heap.size, 0, none⟩ = some (.slice a n c) ∧ w1.cell? ⟨w.heap.size + 1, 0, none⟩ = some (.int .i64 p) ∧ w1.cell? ⟨w.heap.size + 1, 1, none⟩ = some (.int .i64 u) ∧ w1.cell? ⟨w.heap.size + 1 + 1, 0, none⟩ = some (.slice none 0 0) ∧ w1.cell? ⟨w.heap.size + 1 + 1 + 1, 0, none⟩ = some (.int .i64 0) ∧ w1.cell? ⟨w.heap.size + 1 + 1 + 1, 1, none⟩ = some (.int .i64 0) ∧ (∀ o, w1.frozen? ⟨w.heap.size + 1 + 1, o, none⟩ = false) ∧ (∀ o, w1.frozen? ⟨w.heap.size + 1 + 1 + 1, o, none⟩ = false) := by
  refine ⟨?_, ?_, ?_, ?_, ?_, ?_, fun o => ?_, fun o => ?_⟩
  all_goals first | exact (hb.cell (by first | (simp; done) | (simp; omega))).trans (by go_simp) | exact (hb.frozen (by first | (simp; done) | (simp; omega))).trans (by go_simp)

set_option maxRecDepth 100000 in
set_option maxHeartbeats 2000000 in
theorem attach_ok (a : Option Addr) (c : Nat) (S : List Nd) (k f : Nat) (u : Int) (cl : Bool) (w : World) (wf : WF S) (hS : NdsAt w a S) (hk : k < S.length) (hE : findE S k u = 0) (hH : hostB S k = false) (hf : f < S.length) (hfr : freeB (nd S f) = true) (hall : ∀ i, i < f → freeB (nd S i) = false) :
    Calls Try.prog 31 #[.agg #[.slice a S.length c], .agg #[.int .i64 (k : Int), .int .i64 u], .bool cl] w fun e w' => ∃ g, e = .returned (.tuple #[.agg #[.slice (some ⟨g, 0, none⟩) S.length S.length], .agg #[.int .i64 (f : Int), .int .i64 ((nd S f).n + 1)], .int .i64 0]) ∧ Below w.heap.size w w' ∧ w.heap.size ≤ g ∧ OwnR w' g (S.set f (rootNd (nd S f) k cl)) := by
  have hN := wf.small
  have D0 : Hid (∀ W, NdsAt W a S → Calls _ _ _ _ _) := fun W hW => find_ok a c S k u W (by omega) wf.big hW hk hE (by have := wf.kids_small hk; omega)
  have d1 := fun W hW => isHost_any a c S (k : Int) W (by omega) hW (by omega)
  rw [hH] at d1
  have D1 : Hid _ := d1
  have D2 : Hid (∀ W, NdsAt W a S → Calls _ _ _ _ _) := fun W hW => make_own a c S 0 W hN (fun i hi => by have := wf.kids_small hi; omega) hW ((wf_iff _).2 wf) (by omega) (by omega) f hf hfr (wf.uses hf).1 hall
  have HS : Hid (NdsAt w a S) := hS
  have RT : Hid (∀ W g, OwnR W g (S.set f (madeNd (nd S f) 0)) → OwnR ((W.setCell ⟨g, f * 8 + 6, none⟩ (.int .i64 (k : Int))).setCell ⟨g, f * 8 + 7, none⟩ (.bool cl)) g (S.set f (rootNd (nd S f) k cl))) := fun W g h => by
    have h2 := h.root (k := f) (by simpa using hf) (k : Int) cl
    rw [nd_set S f f _ hf, if_pos rfl, List.set_set] at h2
    exact h2
  have RC : Hid (∀ W g, OwnR W g (S.set f (madeNd (nd S f) 0)) → g < W.heap.size ∧ (∀ o, W.frozen? ⟨g, o, none⟩ = false) ∧ (∃ v6 v7, W.cell? ⟨g, f * 8 + 6, none⟩ = some v6 ∧ W.cell? ⟨g, f * 8 + 7, none⟩ = some v7)) := fun W g ⟨F, hF, _⟩ => by
    rw [List.length_set] at hF
    exact ⟨hF.lt, hF.frozen, _, _, hF.cell (by omega), hF.cell (by omega)⟩
  have hf2 : (f : Int) < (S.length : Int) := by omega
  have hf3 : decide ((f : Int) < 0) = false := decide_eq_false (by omega)
  clear hS wf hE hH hfr hall d1
  obtain ⟨x0, hx0⟩ : ∃ x, nd S k = x := ⟨_, rfl⟩
  rw [hx0] at D0
  clear hx0
  obtain ⟨S1, hS1⟩ : ∃ S1, S.set f (madeNd (nd S f) 0) = S1 := ⟨_, rfl⟩
  obtain ⟨S2, hS2⟩ : ∃ S2, S.set f (rootNd (nd S f) k cl) = S2 := ⟨_, rfl⟩
  rw [hS1] at D2 RT RC
  rw [hS2] at RT ⊢
  clear hS1 hS2
  generalize (nd S f).n = nf at *
  generalize S.length = n at *
  go_enter Try.func31, Try.ntmps31
  go_wp2_with fail
  refine Calls.mono (D0.out _ (HS.out.below (four_below _ _ _ _ _))) ?_
  rintro e w2 ⟨fg, rfl, hb2, _⟩
  simp only [World.size_alloc] at hb2
  have HB2 : Hid (Below (w.heap.size + 1 + 1 + 1 + 1) ((((w.alloc (.cells #[.slice a n c] 24)).alloc (.cells #[.int .i64 (k : Int), .int .i64 u] 26)).alloc (.cells #[.slice none 0 0] 24)).alloc (.cells #[.int .i64 0, .int .i64 0] 26)) w2) := hb2
  have hs2 := hb2.size
  simp only [World.size_alloc] at hs2
  obtain ⟨l0, l1, l2, l3, l4, l5, l6, l7⟩ := att_low hb2
  have BW : Hid (∀ W, Below (w.heap.size + 1 + 1 + 1 + 1) ((((w.alloc (.cells #[.slice a n c] 24)).alloc (.cells #[.int .i64 (k : Int), .int .i64 u] 26)).alloc (.cells #[.slice none 0 0] 24)).alloc (.cells #[.int .i64 0, .int .i64 0] 26)) W → Below w.heap.size w W) := fun W h => (four_below _ _ _ _ _).trans (h.mono (by omega))
  clear hb2
  have q0 : w.heap.size < w2.heap.size := by omega
  have q1 : w.heap.size + 1 < w2.heap.size := by omega
  go_wp2_with fail
  refine Calls.mono (D1.out _ (HS.out.below (BW.out _ (HB2.out.alloc (by omega) _)))) ?_
  rintro e w3 ⟨rfl, hb3⟩
  simp only [World.size_alloc] at hb3
  have HB3 : Hid (Below (w.heap.size + 1 + 1 + 1 + 1) ((((w.alloc (.cells #[.slice a n c] 24)).alloc (.cells #[.int .i64 (k : Int), .int .i64 u] 26)).alloc (.cells #[.slice none 0 0] 24)).alloc (.cells #[.int .i64 0, .int .i64 0] 26)) w3) := (HB2.out.alloc (by omega) _).trans (hb3.mono (by omega))
  have hs3 := hb3.size
  simp only [World.size_alloc] at hs3
  clear hb3 l0 l1 l2 l3 l4 l5 l6 l7
  obtain ⟨l0, l1, l2, l3, l4, l5, l6, l7⟩ := att_low HB3.out
  go_wp2_with fail
  refine Calls.mono (D2.out _ (HS.out.below (BW.out _ HB3.out))) ?_
  rintro e w4 ⟨g, rfl, hb4, hg4, hO4⟩
  have HB4 : Hid (Below (w.heap.size + 1 + 1 + 1 + 1) ((((w.alloc (.cells #[.slice a n c] 24)).alloc (.cells #[.int .i64 (k : Int), .int .i64 u] 26)).alloc (.cells #[.slice none 0 0] 24)).alloc (.cells #[.int .i64 0, .int .i64 0] 26)) w4) := HB3.out.trans (hb4.mono (by omega))
  have hs4 := hb4.size
  clear hb4 l0 l1 l2 l3 l4 l5 l6 l7
  obtain ⟨l0, l1, l2, l3, l4, l5, l6, l7⟩ := att_low HB4.out
  obtain ⟨hgl, hfz, v6, v7, d6, d7⟩ := RC.out _ _ hO4
  have HO4 : Hid (OwnR w4 g S1) := hO4
  have e1 : ¬ g = w.heap.size + 1 := by omega
  have e2 : ¬ w.heap.size + 1 = g := by omega
  have e3 : ¬ g = w.heap.size + 1 + 1 := by omega
  have e4 : ¬ w.heap.size + 1 + 1 = g := by omega
  have e5 : ¬ g = w.heap.size + 1 + 1 + 1 := by omega
  have e6 : ¬ w.heap.size + 1 + 1 + 1 = g := by omega
  have q2 : w.heap.size + 1 < w4.heap.size := by omega
  have q3 : w.heap.size + 1 + 1 < w4.heap.size := by omega
  have q4 : w.heap.size + 1 + 1 + 1 < w4.heap.size := by omega
  have q5 : w.heap.size < w4.heap.size := by omega
  clear hO4 D0 D1 D2
  go_wp2_with fail
  first
    | (obtain ⟨W6, hW6⟩ : ∃ W6, W6 = ((((w4.setCell ⟨g, f * 8 + 6, none⟩ (.int .i64 (k : Int))).setCell ⟨g, f * 8 + 7, none⟩ (.bool cl)).alloc (.cells #[.slice (some ⟨g, 0, none⟩) n n] 24)).alloc (.cells #[.int .i64 (f : Int), .int .i64 (nf + 1)] 26)) := ⟨_, rfl⟩; rw [← hW6])
    | (obtain ⟨W6, hW6⟩ : ∃ W6, W6 = ((((w4.alloc (.cells #[.slice (some ⟨g, 0, none⟩) n n] 24)).alloc (.cells #[.int .i64 (f : Int), .int .i64 (nf + 1)] 26)).setCell ⟨g, f * 8 + 6, none⟩ (.int .i64 (k : Int))).setCell ⟨g, f * 8 + 7, none⟩ (.bool cl)) := ⟨_, rfl⟩; rw [← hW6])
  have HR6 : Hid (OwnR W6 g S2) := by
    rw [hW6]
    first
      | exact (RT.out w4 g HO4.out).up (fun b _ hlt => (((Below.refl _ _).alloc (Nat.le_refl _) _).alloc (by simp) _).block b hlt)
      | exact RT.out _ g (HO4.out.up (fun b _ hlt => (((Below.refl _ _).alloc (Nat.le_refl _) _).alloc (by simp) _).block b hlt))
  have hs6 : W6.heap.size = w4.heap.size + 1 + 1 := by rw [hW6]; simp
  have HB6 : Hid (Below w.heap.size w W6) := by
    rw [hW6]
    first
      | exact ((((BW.out _ HB4.out).setCell (by simp; omega) _).setCell (by simp; omega) _).alloc (by simp; omega) _).alloc (by simp; omega) _
      | exact ((((BW.out _ HB4.out).alloc (by omega) _).alloc (by simp; omega) _).setCell (by simp; omega) _).setCell (by simp; omega) _
  have y0 : W6.cell? ⟨w4.heap.size, 0, none⟩ = some (.slice (some ⟨g, 0, none⟩) n n) := by rw [hW6]; go_simp
  have y1 : W6.cell? ⟨w4.heap.size + 1, 0, none⟩ = some (.int .i64 (f : Int)) := by rw [hW6]; go_simp
  have y2 : W6.cell? ⟨w4.heap.size + 1, 1, none⟩ = some (.int .i64 (nf + 1)) := by rw [hW6]; go_simp
  have y3 : W6.cell? ⟨w.heap.size + 1 + 1, 0, none⟩ = some (.slice none 0 0) := by rw [hW6]; go_simp
  have y4 : W6.cell? ⟨w.heap.size + 1 + 1 + 1, 0, none⟩ = some (.int .i64 0) := by rw [hW6]; go_simp
  have y5 : W6.cell? ⟨w.heap.size + 1 + 1 + 1, 1, none⟩ = some (.int .i64 0) := by rw [hW6]; go_simp
  have y6 : ∀ o, W6.frozen? ⟨w.heap.size + 1 + 1, o, none⟩ = false := fun o => by rw [hW6]; go_simp
  have y7 : ∀ o, W6.frozen? ⟨w.heap.size + 1 + 1 + 1, o, none⟩ = false := fun o => by rw [hW6]; go_simp
  have z1 : w4.heap.size < W6.heap.size := by omega
  have z2 : w4.heap.size + 1 < W6.heap.size := by omega
  have z3 : w.heap.size + 1 + 1 < W6.heap.size := by omega
  have z4 : w.heap.size + 1 + 1 + 1 < W6.heap.size := by omega
  have z5 : ¬ w4.heap.size = w.heap.size + 1 + 1 := by omega
  have z6 : ¬ w4.heap.size + 1 = w.heap.size + 1 + 1 := by omega
  have z7 : ¬ w4.heap.size = w.heap.size + 1 + 1 + 1 := by omega
  have z8 : ¬ w4.heap.size + 1 = w.heap.size + 1 + 1 + 1 := by omega
  clear hW6 l0 l1 l2 l3 l4 l5 l6 l7 d6 d7 hfz
  go_region
  all_goals (try go_wp2)
  all_goals
    refine bodyPost_ret (v := .tuple #[.agg #[.slice (some ⟨g, 0, none⟩) n n], .agg #[.int .i64 (f : Int), .int .i64 (nf + 1)], .int .i64 0]) (by simp [results, Try.results31, go_sem, y3, y4, y5]) rfl ⟨g, rfl, ?_, by omega, ?_⟩
    · first
        | exact (((HB6.out.setCell (by simp; omega) _).setCell (by simp; omega) _).setCell (by simp; omega) _).drew
        | exact ((HB6.out.setCell (by simp; omega) _).setCell (by simp; omega) _).setCell (by simp; omega) _
    · refine HR6.out.up (fun b hb hlt => ?_)
      first
        | rw [heap_drew, Below.heap_setCell _ _ _ _ (by show b ≠ w.heap.size + 1 + 1 + 1; omega), Below.heap_setCell _ _ _ _ (by show b ≠ w.heap.size + 1 + 1 + 1; omega), Below.heap_setCell _ _ _ _ (by show b ≠ w.heap.size + 1 + 1; omega)]
        | rw [Below.heap_setCell _ _ _ _ (by show b ≠ w.heap.size + 1 + 1 + 1; omega), Below.heap_setCell _ _ _ _ (by show b ≠ w.heap.size + 1 + 1 + 1; omega), Below.heap_setCell _ _ _ _ (by show b ≠ w.heap.size + 1 + 1; omega)]
end Go.Proofs.Ytlgnapdhnlhkpaa
