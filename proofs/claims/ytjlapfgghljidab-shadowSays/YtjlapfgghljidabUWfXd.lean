/-
  What an insertion does to a right store, without the program: it stays one; the order under the node that is put stays; where it stands; taken out again, all is as it was.
-/
import Derived.Test.YtjlapfgghljidabUWa
import Derived.Test.YtjlapfgghljidabUWbWdXa
import Derived.Test.YtjlapfgghljidabUSoTmSr
namespace Go.Proofs.Ytjlapfgghljidab
open Go.RowKit

theorem WF.ringless {S : List Nd} (h : WF S) {x j : Nat} (hx : x < S.length) (h1 : 1 ≤ j) : ¬ Up S j x x := fun hu =>
  h.no_ring hx h1 (by have := h.up_short hx hu; omega) hu

theorem WF.leaveG {S : List Nd} (h : WF S) {ch : Nat} (hch : ch < S.length) : WF (leaveG S ch) := by
  unfold Go.Proofs.Ytjlapfgghljidab.leaveG
  split
  · exact h
  · rename_i hp
    obtain ⟨pa, e, _⟩ := h.parent_place hch hp
    rw [e, Int.toNat_natCast]
    exact h.leave hch e

theorem leaveG_u (S : List Nd) (ch j : Nat) : (nd (leaveG S ch) j).u = (nd S j).u ∧ (nd (leaveG S ch) j).n = (nd S j).n ∧ (nd (leaveG S ch) j).h = (nd S j).h ∧ (nd (leaveG S ch) j).t = (nd S j).t ∧ (nd (leaveG S ch) j).m = (nd S j).m ∧ (nd (leaveG S ch) j).c = (nd S j).c := by
  unfold leaveG
  split
  · exact ⟨rfl, rfl, rfl, rfl, rfl, rfl⟩
  · exact leave_u S _ ch j

theorem leaveG_p (S : List Nd) {ch j : Nat} (hj : j < S.length) : (nd (leaveG S ch) j).p = if j = ch then -1 else (nd S j).p := by
  unfold leaveG
  split
  · rename_i h
    split
    · rename_i e; rw [e]; exact h
    · rfl
  · exact leave_p S hj

theorem leaveG_ks {S : List Nd} (h : WF S) {ch j : Nat} (hch : ch < S.length) (hj : j < S.length) (hne : (nd S ch).p ≠ j) : (nd (leaveG S ch) j).ks = (nd S j).ks := by
  unfold leaveG
  split
  · rfl
  · rename_i hp
    obtain ⟨pa, e, _, hpc, _⟩ := h.parent_place hch hp
    rw [e, Int.toNat_natCast, leave_ks S hpc hj, if_neg (by omega)]

theorem leaveG_under {S : List Nd} {pa ch : Nat} (hpa : pa < S.length) (hu : underB S pa ch = false) : underB (leaveG S ch) pa ch = false := by
  cases hb : underB (leaveG S ch) pa ch with
  | false => rfl
  | true =>
    have hl := leaveG_length S ch
    obtain ⟨j, j1, j2, j3⟩ := under_up (by rw [hl]; exact hpa) hb
    rw [hl] at j2
    have : Up S j pa ch := up_same hl (fun y hy z hz => by
      unfold rightUnder at *
      rw [(leaveG_u S ch y).2.2.1, leaveG_p S hy] at hz
      by_cases e1 : y = ch
      · subst e1
        rw [if_pos rfl] at hz
        by_cases hh : (nd S y).h = -1
        · rw [if_pos hh] at hz
          omega
        · rw [if_neg hh] at hz ⊢
          exact hz
      · rw [if_neg e1] at hz
        exact hz) hpa j3
    rw [up_under hpa j1 j2 this] at hu
    cases hu

theorem fits_parts {S : List Nd} {ch pa : Nat} (h : fitsB S ch pa = true) : (nd S ch).h = -1 ∧ pa ≠ ch ∧ underB S pa ch = false := by
  unfold fitsB at h
  simp only [Bool.and_eq_true, Bool.not_eq_true', decide_eq_true_eq, decide_eq_false_iff_not] at h
  exact ⟨h.1, fun e => h.2.1 (by rw [e]), h.2.2⟩

structure Puts (S : List Nd) (pa ch : Nat) : Prop where
  wf : WF S
  hpa : pa < S.length
  hch : ch < S.length
  hpu : (nd S pa).u = true
  hcu : (nd S ch).u = true
  fits : fitsB S ch pa = true

theorem Puts.insert {S : List Nd} {pa ch : Nat} (h : Puts S pa ch) (at' : Nat) : WF (enterS (leaveG S ch) pa ch at') := by
  obtain ⟨f1, f2, f3⟩ := fits_parts h.fits
  have hl := leaveG_length S ch
  refine (h.wf.leaveG h.hch).enter (by rw [hl]; exact h.hpa) (by rw [hl]; exact h.hch) ?_ ?_ ?_ ?_ f2 (leaveG_under h.hpa f3)
  · rw [(leaveG_u S ch pa).1]; exact h.hpu
  · rw [(leaveG_u S ch ch).1]; exact h.hcu
  · rw [leaveG_p S h.hch, if_pos rfl]
  · rw [(leaveG_u S ch ch).2.2.1]; exact f1

theorem orderF_congr {S A : List Nd} : ∀ {f p : Nat}, (∀ y ∈ orderF S f p, (nd A y.toNat).ks = (nd S y.toNat).ks) → orderF A f p = orderF S f p
  | 0, _, _ => rfl
  | f + 1, p, h => by
    have hp : (nd A p).ks = (nd S p).ks := by
      have := h (p : Int) (by simp [orderF])
      simpa using this
    simp only [orderF, hp]
    congr 1
    have : ∀ l : List Int, (∀ k ∈ l, k ∈ (nd S p).ks) → l.flatMap (fun k => orderF A f k.toNat) = l.flatMap (fun k => orderF S f k.toNat) := by
      intro l
      induction l with
      | nil => intro _; rfl
      | cons k l ih =>
        intro hk
        rw [List.flatMap_cons, List.flatMap_cons, ih (fun x hx => hk x (by simp [hx])), orderF_congr (fun y hy => h y (by
          simp only [orderF, List.mem_cons, List.mem_flatMap]
          exact Or.inr ⟨k, hk k (by simp), hy⟩))]
    exact this _ (fun _ hk => hk)

theorem Puts.order {S : List Nd} {pa ch : Nat} (h : Puts S pa ch) (at' : Nat) : orderS (enterS (leaveG S ch) pa ch at') ch = orderS S ch := by
  obtain ⟨f1, f2, f3⟩ := fits_parts h.fits
  have hl := leaveG_length S ch
  unfold orderS
  rw [enterS_length, hl]
  refine orderF_congr (fun y hy => ?_)
  obtain ⟨q, rfl, hq, _, j, _, hup⟩ := mem_order h.wf h.hch (h.wf.deep_all h.hch) y hy
  rw [Int.toNat_natCast, enter_ks _ f2 (by rw [hl]; exact hq), if_neg, leaveG_ks h.wf h.hch hq]
  · intro e
    obtain ⟨p0, e0, hp0, _, hin, _⟩ := h.wf.parent_place h.hch (by omega)
    have : p0 = q := by omega
    subst this
    obtain ⟨k, ek, _, _, _, hr⟩ := h.wf.kid hp0 hin
    have : k = ch := by omega
    subst this
    exact h.wf.ringless h.hch (j := 1 + j) (by omega) ((WF.up_one hp0 hr).trans hup)
  · rintro rfl
    cases j with
    | zero => exact f2 hup
    | succ j =>
      rw [up_under hq (by omega) (by have := h.wf.up_short hq hup; omega) hup] at f3
      cases f3

theorem idx_ins {ks : List Int} {i : Nat} {c : Int} (hi : i ≤ ks.length) (hc : c ∉ ks) : idx (ins ks i c) c = i := by
  refine (idx_some (k := i) (by rw [ins_length _ _ _ hi]; omega) (ins_here ks i c hi) (fun j hj e => ?_)).1
  rw [ins_low ks i j c hi hj, getD_elem ks 0 (by omega)] at e
  exact hc (by rw [← e]; exact List.getElem_mem _)

theorem idx_lt {ks : List Int} {v : Int} (h : v ∈ ks) : ∃ k : Nat, idx ks v = k ∧ k < ks.length ∧ ks.getD k 0 = v := by
  refine ⟨ks.idxOf v, by unfold idx; rw [if_pos h], List.idxOf_lt_length_of_mem h, ?_⟩
  rw [getD_elem ks 0 (List.idxOf_lt_length_of_mem h)]
  exact List.getElem_idxOf (List.idxOf_lt_length_of_mem h)

theorem Puts.kids {S : List Nd} {pa ch : Nat} (h : Puts S pa ch) (at' : Nat) : (nd (enterS (leaveG S ch) pa ch at') pa).ks = ins (nd (leaveG S ch) pa).ks at' ch ∧ (ch : Int) ∉ (nd (leaveG S ch) pa).ks := by
  obtain ⟨f1, f2, f3⟩ := fits_parts h.fits
  have hl := leaveG_length S ch
  refine ⟨by rw [enter_ks _ f2 (by rw [hl]; exact h.hpa), if_pos rfl], (h.wf.leaveG h.hch).not_kid (by rw [leaveG_p S h.hch, if_pos rfl]) (by rw [hl]; exact h.hpa)⟩

theorem flt_ins {ks : List Int} {i : Nat} {c : Int} (hc : c ∉ ks) : flt (fun x => decide (x = c)) (ins ks i c) = ks := by
  unfold flt ins
  have key : ∀ l : List Int, (∀ x ∈ l, x ∈ ks) → l.filter (fun x => !decide (x = c)) = l := fun l hl => by
    rw [List.filter_eq_self]
    intro x hx
    have : x ≠ c := fun e => hc (by rw [← e]; exact hl x hx)
    simp [this]
  rw [List.filter_append, List.filter_cons, key _ (fun x hx => List.mem_of_mem_take hx), key _ (fun x hx => List.mem_of_mem_drop hx)]
  simp

/-- Put where it stood nowhere, and taken out: as it was. -/
theorem Puts.back {S : List Nd} {pa ch : Nat} (h : Puts S pa ch) (at' : Nat) (hp : (nd S ch).p = -1) : leaveS (enterS (leaveG S ch) pa ch at') pa ch = S := by
  obtain ⟨f1, f2, f3⟩ := fits_parts h.fits
  have hG : leaveG S ch = S := by unfold leaveG; rw [if_pos hp]
  have hn := (h.kids at').2
  rw [hG] at hn ⊢
  have hl1 : (enterS S pa ch at').length = S.length := enterS_length _ _ _ _
  have hl2 : (leaveS (enterS S pa ch at') pa ch).length = S.length := by rw [leaveS_length, hl1]
  refine List.ext_getElem hl2 fun i hi hi' => ?_
  rw [← nd_elem hi, ← nd_elem hi']
  rw [nd_leaveS _ _ _ _ (by rw [hl1]; exact hi')]
  unfold leaveNd
  split
  · rename_i e
    subst e
    obtain ⟨u1, u2, u3, u4, u5, u6⟩ := enter_u S pa i at' i
    rw [u1, u2, u3, u4, u5, u6, enter_ks S f2 hi', if_neg (fun e => f2 e.symm)]
    cases hx : nd S i
    rw [hx] at hp
    simp only at hp
    rw [hp]
  · rename_i e1
    split
    · rename_i e
      subst e
      obtain ⟨u1, u2, u3, u4, u5, u6⟩ := enter_u S i ch at' i
      rw [u1, u2, u3, u4, u5, u6, enter_p S hi', if_neg e1, enter_ks S f2 hi', if_pos rfl, flt_ins hn]
    · rename_i e2
      rw [nd_enterS S pa ch at' i hi']
      unfold enterNd
      rw [if_neg e1, if_neg e2]

/-- Right ahead of q, if that stands under pa. -/
theorem Puts.ahead {S : List Nd} {pa ch q : Nat} (h : Puts S pa ch) (hq : q < S.length) (hqp : (nd S q).p = pa) (hqc : q ≠ ch) : ∃ at' : Nat, idx (nd (leaveG S ch) pa).ks q = at' ∧ at' < (nd (leaveG S ch) pa).ks.length ∧ (nd (leaveG S ch) pa).ks.getD at' 0 = q := by
  have hl := leaveG_length S ch
  have := (h.wf.leaveG h.hch).in_kids (k := q) (y := pa) (by rw [hl]; exact hq) (by rw [leaveG_p S hq, if_neg hqc]; exact hqp)
  exact idx_lt this.2

theorem WF.kids_small {S : List Nd} (h : WF S) {i : Nat} (hi : i < S.length) : (nd S i).ks.length ≤ 24 := by
  have h1 := h.kids_nodup hi
  have := h1.length_le_of_subset (l₂ := (List.range S.length).map (fun k : Nat => (k : Int))) (fun x hx => by
    obtain ⟨k, rfl, hk, _⟩ := h.kid hi hx
    exact List.mem_map.2 ⟨k, List.mem_range.2 hk, rfl⟩)
  rw [List.length_map, List.length_range] at this
  exact Nat.le_trans this h.small

theorem WF.big {S : List Nd} (h : WF S) : Big S := fun _ hi => Nat.le_trans (h.kids_small hi) (by omega)

theorem holds_used {S : List Nd} {k : Nat} {u : Int} (hk : k < S.length) (hu : (nd S k).u = true) (hn : (nd S k).n = u) (h : WF S) : holdsE S k u = 0 := by
  have h1 := (node_parts (h.node k hk)).1
  have h2 := (node_parts (h.node k hk)).2.2
  unfold formB at h2
  rw [if_pos hu] at h2
  unfold rangeB at h1
  simp only [Bool.and_eq_true, decide_eq_true_eq] at h1
  have h3 : (nd S k).n ≠ 0 := fun e => by rw [if_pos e] at h2; cases h2
  unfold holdsE
  rw [if_pos (show isPl S.length (k : Int) = true from decide_eq_true ⟨by omega, by omega⟩), Int.toNat_natCast]
  unfold holdX
  rw [if_pos (decide_eq_true ⟨by omega, by omega⟩), if_pos hu, if_pos hn]

theorem tcheck_of {S : List Nd} {k : Nat} {u : Int} (hk : k < S.length) (hu : (nd S k).u = true) (hn : (nd S k).n = u) (h : WF S) : tcheckE S [((k : Int), u)] = 0 := by
  unfold tcheckE
  rw [if_pos ((wf_iff S).2 h), hands_single]
  exact holds_used hk hu hn h
end Go.Proofs.Ytjlapfgghljidab

namespace Go.Proofs.Ytjlapfgghljidab
open Go.RowKit

def freedNd (x : Nd) : Nd := ⟨false, x.n, 0, 0, -1, [], -1, false⟩

/-- Does nothing hang on the node? -/
def looseB (S : List Nd) (k : Nat) : Prop := rightUnder (nd S k) = -1 ∧ (nd S k).ks = [] ∧ hostB S k = false

/-- A store with the same Parents, Kids and Hosts, in which those are in use that something names. -/
theorem WF.like {S A : List Nd} (h : WF S) (hl : A.length = S.length) (hn : ∀ i, i < S.length → nodeE S.length (nd A i) = 0)
    (hs : ∀ i, i < S.length → (nd A i).p = (nd S i).p ∧ (nd A i).ks = (nd S i).ks ∧ (nd A i).h = (nd S i).h)
    (hu : ∀ i, i < S.length → (nd S i).u = true → (nd A i).u = true ∨ ∀ j, j < S.length → (i : Int) ∉ (nd S j).ks ∧ (nd S j).h ≠ i) : WF A := by
  refine ⟨by rw [hl]; exact h.small, fun i hi => by rw [hl] at hi ⊢; exact hn i hi, kidsOk_of (fun i hi => ?_) (fun i hi x hx => ?_) (fun j hj hjp => ?_), fun i hi => ?_, fun i hi => ?_⟩
  · rw [hl] at hi
    rw [(hs i hi).2.1]
    exact h.kids_nodup hi
  · rw [hl] at hi ⊢
    rw [(hs i hi).2.1] at hx
    obtain ⟨k, rfl, k1, k2, k3, _⟩ := h.kid hi hx
    refine ⟨k, rfl, k1, ?_, by rw [(hs k k1).1]; exact k3⟩
    rcases hu k k1 k2 with g | g
    · exact g
    · exact absurd hx (g i hi).1
  · rw [hl] at hj ⊢
    rw [(hs j hj).1] at hjp
    obtain ⟨i, i1, i2, _, i3, _⟩ := h.parent_place hj hjp
    exact ⟨i, i2, by rw [(hs i i2).2.1]; exact i3⟩
  · rw [hl] at hi
    intro hh
    rw [(hs i hi).2.2] at hh ⊢
    obtain ⟨g1, g2⟩ := h.hosts i hi hh
    have hb := (names_ks (names_of (h.node i hi))).2.1
    obtain ⟨q, hq⟩ : ∃ q : Nat, (nd S i).h = (q : Int) := ⟨(nd S i).h.toNat, by omega⟩
    refine ⟨?_, fun i' hi' => by rw [(hs i' (by omega)).2.2]; exact g2 i' hi'⟩
    rw [hq, Int.toNat_natCast] at g1 ⊢
    rcases hu q (by omega) g1 with g | g
    · exact g
    · exact absurd hq (g i hi).2
  · rw [hl] at hi
    cases hb : underB A i i with
    | false => rfl
    | true =>
      obtain ⟨j, j1, j2, j3⟩ := under_up (by rw [hl]; exact hi) hb
      rw [hl] at j2
      exact absurd (up_same hl (fun y hy z e => by unfold rightUnder at e ⊢; rw [(hs y hy).1, (hs y hy).2.2] at e; exact e) hi j3) (h.no_ring hi j1 j2)

theorem WF.unused {S : List Nd} (h : WF S) {k : Nat} (hk : k < S.length) (hu : (nd S k).u = false) : (nd S k).t = 0 ∧ (nd S k).m = 0 ∧ (nd S k).p = -1 ∧ (nd S k).ks = [] ∧ (nd S k).h = -1 ∧ (nd S k).c = false := by
  have hf := (node_parts (h.node k hk)).2.2
  unfold formB at hf
  rw [hu] at hf
  exact of_decide_eq_true hf

theorem WF.uses {S : List Nd} (h : WF S) {k : Nat} (hk : k < S.length) : 0 ≤ (nd S k).n ∧ (nd S k).n ≤ 1000000 ∧ ((nd S k).u = true → 1 ≤ (nd S k).n) := by
  obtain ⟨h1, _, h3⟩ := node_parts (h.node k hk)
  unfold rangeB at h1
  simp only [Bool.and_eq_true, decide_eq_true_eq] at h1
  refine ⟨h1.1.1, h1.1.2, fun hu => ?_⟩
  unfold formB at h3
  rw [if_pos hu] at h3
  by_cases e : (nd S k).n = 0
  · rw [if_pos e] at h3
    cases h3
  · have := h1.1.1
    omega

theorem free_parts {x : Nd} (h : freeB x = true) : x.u = false ∧ x.n < 1000000 := by
  unfold freeB at h
  simpa using h

theorem WF.make {S : List Nd} (h : WF S) {k : Nat} {t : Int} (hk : k < S.length) (hf : freeB (nd S k) = true) (ht0 : 0 ≤ t) (ht1 : t ≤ 99) : WF (S.set k (madeNd (nd S k) t)) := by
  obtain ⟨hu, hn⟩ := free_parts hf
  obtain ⟨q1, q2, q3, q4, q5, q6⟩ := h.unused hk hu
  obtain ⟨n0, n1, _⟩ := h.uses hk
  refine h.like (by simp) (fun i hi => ?_) (fun i hi => ?_) (fun i hi hiu => ?_)
  · rw [nd_set S k i _ hk]
    split
    · rename_i e
      subst e
      obtain ⟨r1, r2, r3⟩ := node_parts (h.node i hi)
      obtain ⟨m1, m2, m3⟩ := names_parts r2
      refine node_of ?_ (names_mk m1 m2 m3) ?_
      · unfold rangeB madeNd
        simp only [Bool.and_eq_true, decide_eq_true_eq]
        exact ⟨⟨by omega, by omega⟩, ⟨ht0, ht1⟩, by rw [q2]; omega, by rw [q2]; omega⟩
      · unfold formB madeNd
        simp only [if_true]
        rw [if_neg (by omega), if_pos q5, q6]
        rfl
    · exact h.node i hi
  · rw [nd_set S k i _ hk]
    split
    · rename_i e
      subst e
      exact ⟨rfl, rfl, rfl⟩
    · exact ⟨rfl, rfl, rfl⟩
  · rw [nd_set S k i _ hk]
    split
    · exact Or.inl rfl
    · exact Or.inl hiu

theorem loose_parts {S : List Nd} {k : Nat} (h : looseB S k) : (nd S k).p = -1 ∧ (nd S k).h = -1 ∧ (nd S k).ks = [] ∧ ∀ j, j < S.length → (nd S j).h ≠ k := by
  obtain ⟨h1, h2, h3⟩ := h
  unfold rightUnder at h1
  by_cases e : (nd S k).h = -1
  · rw [if_pos e] at h1
    exact ⟨h1, e, h2, hostB_false.1 h3⟩
  · rw [if_neg e] at h1
    exact absurd h1 e

theorem WF.free {S : List Nd} (h : WF S) {k : Nat} (hk : k < S.length) (hL : looseB S k) : WF (S.set k (freedNd (nd S k))) := by
  obtain ⟨hp, hh, hks, hH⟩ := loose_parts hL
  obtain ⟨n0, n1, _⟩ := h.uses hk
  refine h.like (by simp) (fun i hi => ?_) (fun i hi => ?_) (fun i hi hiu => ?_)
  · rw [nd_set S k i _ hk]
    split
    · rename_i e
      subst e
      refine node_of ?_ (names_mk ?_ ?_ (fun y hy => absurd hy (by simp [freedNd]))) ?_
      · unfold rangeB freedNd
        simp only [Bool.and_eq_true, decide_eq_true_eq]
        exact ⟨⟨n0, n1⟩, by omega, by omega⟩
      · unfold freedNd okPl
        exact decide_eq_true ⟨by dsimp only; omega, by dsimp only; omega⟩
      · unfold freedNd okPl
        exact decide_eq_true ⟨by dsimp only; omega, by dsimp only; omega⟩
      · unfold formB freedNd
        simp
    · exact h.node i hi
  · rw [nd_set S k i _ hk]
    split
    · rename_i e
      subst e
      exact ⟨hp.symm, hks.symm, hh.symm⟩
    · exact ⟨rfl, rfl, rfl⟩
  · by_cases e : i = k
    · subst e
      exact Or.inr (fun j hj => ⟨h.not_kid hp hj, hH j hj⟩)
    · rw [nd_set S k i _ hk, if_neg e]
      exact Or.inl hiu

theorem wf_new (n : Nat) (hn : n ≤ 24) : WF (List.replicate n unusedNd) := by
  have hnd : ∀ i, i < n → nd (List.replicate n unusedNd) i = unusedNd := fun i hi => nd_replicate n i _ hi
  have hl : (List.replicate n unusedNd).length = n := by simp
  refine ⟨by rw [hl]; exact hn, fun i hi => ?_, kidsOk_of (fun i hi => ?_) (fun i hi x hx => ?_) (fun j hj hjp => ?_), fun i hi => ?_, fun i hi => ?_⟩
  · rw [hl] at hi ⊢
    rw [hnd i hi]
    refine node_of (by decide) (names_mk ?_ ?_ (fun y hy => absurd hy (by simp [unusedNd]))) (by decide)
    · unfold unusedNd okPl
      exact decide_eq_true ⟨by dsimp only; omega, by dsimp only; omega⟩
    · unfold unusedNd okPl
      exact decide_eq_true ⟨by dsimp only; omega, by dsimp only; omega⟩
  · rw [hl] at hi
    rw [hnd i hi]
    exact List.nodup_nil
  · rw [hl] at hi
    rw [hnd i hi] at hx
    cases hx
  · rw [hl] at hj
    rw [hnd j hj] at hjp
    exact absurd rfl hjp
  · rw [hl] at hi
    intro hh
    rw [hnd i hi] at hh
    exact absurd rfl hh
  · cases hb : underB (List.replicate n unusedNd) i i with
    | false => rfl
    | true =>
      obtain ⟨j, j1, j2, j3⟩ := under_up hi hb
      obtain ⟨j', rfl⟩ : ∃ j', j = j' + 1 := ⟨j - 1, by omega⟩
      obtain ⟨z, _, hz, _⟩ := j3
      rw [hl] at hi
      rw [hnd i hi] at hz
      have : (-1 : Int) = (z : Int) := hz
      omega
end Go.Proofs.Ytjlapfgghljidab
