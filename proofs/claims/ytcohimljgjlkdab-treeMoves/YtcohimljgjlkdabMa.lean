/-
  What an insertion does to the orders of all trees, without the program.
-/
import Derived.Test.YtcohimljgjlkdabWf
import Derived.Test.YtcohimljgjlkdabSr
namespace Go.Proofs.Ytcohimljgjlkdab
open Go.RowKit

theorem Deep.more {S : List Nd} : ∀ {f p : Nat}, Deep S f p → Deep S (f + 1) p
  | 0, p, h => by
    intro k hk
    have h' : (nd S p).ks = [] := h
    rw [h'] at hk
    cases hk
  | f + 1, p, h => fun k hk => ⟨(h k hk).1, (h k hk).2.more⟩

theorem order_more {S : List Nd} : ∀ {f p : Nat}, Deep S f p → orderF S (f + 1) p = orderF S f p
  | 0, p, h => by
    have h' : (nd S p).ks = [] := h
    simp [orderF, h']
  | f + 1, p, h => by
    rw [orderF]
    conv => rhs; rw [orderF]
    congr 1
    have : ∀ l : List Int, (∀ k ∈ l, k ∈ (nd S p).ks) → (l.flatMap fun k => orderF S (f + 1) k.toNat) = l.flatMap fun k => orderF S f k.toNat := by
      intro l
      induction l with
      | nil => intro _; rfl
      | cons x r ih =>
        intro hl
        rw [List.flatMap_cons, List.flatMap_cons, order_more (h x (hl x List.mem_cons_self)).2, ih (fun k hk => hl k (List.mem_cons_of_mem _ hk))]
    exact this _ (fun _ h => h)

theorem order_fuel {S : List Nd} (wf : WF S) {p : Nat} (hp : p < S.length) : ∀ {f : Nat}, Deep S f p → orderF S f p = orderS S p := by
  have up : ∀ (j f : Nat), Deep S f p → Deep S (f + j) p ∧ orderF S (f + j) p = orderF S f p := by
    intro j
    induction j with
    | zero => intro f h; exact ⟨h, rfl⟩
    | succ j ih =>
      intro f h
      obtain ⟨h1, h2⟩ := ih f h
      exact ⟨h1.more, by rw [show f + (j + 1) = (f + j) + 1 by omega, order_more h1, h2]⟩
  intro f h
  unfold orderS
  rcases Nat.le_total f S.length with hle | hle
  · have := (up (S.length - f) f h).2
    rw [show f + (S.length - f) = S.length by omega] at this
    exact this.symm
  · have := (up (f - S.length) S.length (wf.deep_all hp)).2
    rw [show S.length + (f - S.length) = f by omega] at this
    exact this

/-- What stands under a node stands together in any order that it stands in. -/
theorem order_block {S : List Nd} (wf : WF S) : ∀ {f p c : Nat}, p < S.length → Deep S f p → (c : Int) ∈ orderF S f p → ∃ l1 l2, orderF S f p = l1 ++ orderS S c ++ l2
  | 0, p, c, hp, hD, hm => by
    have hc : c = p := by
      simp only [orderF, List.mem_singleton] at hm
      omega
    subst hc
    exact ⟨[], [], by rw [order_fuel wf hp hD]; simp⟩
  | f + 1, p, c, hp, hD, hm => by
    by_cases hc : c = p
    · subst hc
      exact ⟨[], [], by rw [order_fuel wf hp hD]; simp⟩
    · simp only [orderF] at hm ⊢
      rcases List.mem_cons.1 hm with e | hm
      · exact absurd (by omega) hc
      · obtain ⟨k, hk, hck⟩ := List.mem_flatMap.1 hm
        obtain ⟨⟨hk0, hk1⟩, hDk⟩ := hD k hk
        obtain ⟨l1, l2, e⟩ := order_block wf (p := k.toNat) (by omega) hDk hck
        obtain ⟨a, b, hab⟩ := List.append_of_mem hk
        rw [hab]
        refine ⟨(p : Int) :: (a.flatMap fun k => orderF S f k.toNat) ++ l1, l2 ++ (b.flatMap fun k => orderF S f k.toNat), ?_⟩
        rw [List.flatMap_append, List.flatMap_cons, e]
        simp

theorem leaveG_ks_all {S : List Nd} (h : WF S) {ch j : Nat} (hch : ch < S.length) (hj : j < S.length) : (nd (leaveG S ch) j).ks = flt (fun x => decide (x = (ch : Int))) (nd S j).ks := by
  by_cases hp : (nd S ch).p = j
  · unfold leaveG
    rw [if_neg (by omega), hp, Int.toNat_natCast]
    have hne : j ≠ ch := by
      obtain ⟨pa, e, _, hn, _⟩ := h.parent_place hch (by omega)
      have : pa = j := by omega
      rw [← this]
      exact hn
    rw [leave_ks S hne hj, if_pos rfl]
  · rw [leaveG_ks h hch hj hp, flt_all]
    intro i hi
    rw [decide_eq_false]
    intro e
    have hm : (ch : Int) ∈ (nd S j).ks := by
      rw [← e, getD_elem _ _ hi]
      exact List.getElem_mem hi
    obtain ⟨k, e1, _, _, e2, _⟩ := h.kid hj hm
    have : k = ch := by omega
    subst this
    exact hp e2

theorem flt_self (l : List Int) : flt (fun x => decide (x ∈ l)) l = [] := by
  rw [List.eq_nil_iff_forall_not_mem]
  intro x hx
  have := mem_flt.1 hx
  simp [this.1] at this

theorem flt_append' (p : Int → Bool) (a b : List Int) : flt p (a ++ b) = flt p a ++ flt p b := by
  unfold flt
  exact List.filter_append _ _

/-- The order of a tree that a node has left: the same without it and what is under it. -/
theorem order_leave {S : List Nd} (h : WF S) {ch : Nat} (hch : ch < S.length) (hcu : (nd S ch).u = true) : ∀ {f x : Nat}, x < S.length → Deep S f x → (x : Int) ∉ orderS S ch → orderF (leaveG S ch) f x = flt (fun y => decide (y ∈ orderS S ch)) (orderF S f x)
  | 0, x, hx, hD, hn => by
    simp only [orderF]
    unfold flt
    simp [hn]
  | f + 1, x, hx, hD, hn => by
    have F := orderFacts h hch hcu
    simp only [orderF]
    rw [leaveG_ks_all h hch hx]
    have hhead : ∀ l : List Int, flt (fun y => decide (y ∈ orderS S ch)) ((x : Int) :: l) = (x : Int) :: flt (fun y => decide (y ∈ orderS S ch)) l := fun l => by
      unfold flt
      rw [List.filter_cons, if_pos (by simp [hn])]
    rw [hhead]
    congr 1
    have key : ∀ l : List Int, (∀ k ∈ l, k ∈ (nd S x).ks) → ((flt (fun y => decide (y = (ch : Int))) l).flatMap fun k => orderF (leaveG S ch) f k.toNat) = flt (fun y => decide (y ∈ orderS S ch)) (l.flatMap fun k => orderF S f k.toNat) := by
      intro l
      induction l with
      | nil => intro _; rfl
      | cons k r ih =>
        intro hl
        have hk := hl k List.mem_cons_self
        obtain ⟨⟨hk0, hk1⟩, hDk⟩ := hD k hk
        obtain ⟨kn, rfl⟩ : ∃ kn : Nat, k = kn := ⟨k.toNat, by omega⟩
        rw [Int.toNat_natCast] at hDk
        have ihr := ih (fun y hy => hl y (List.mem_cons_of_mem _ hy))
        rw [List.flatMap_cons, flt_append', ← ihr, Int.toNat_natCast]
        by_cases e : kn = ch
        · subst e
          have e1 : flt (fun y => decide (y = (kn : Int))) ((kn : Int) :: r) = flt (fun y => decide (y = (kn : Int))) r := by
            unfold flt
            rw [List.filter_cons, if_neg (by simp)]
          rw [e1, order_fuel h hch hDk, flt_self, List.nil_append]
        · have e1 : flt (fun y => decide (y = (ch : Int))) ((kn : Int) :: r) = (kn : Int) :: flt (fun y => decide (y = (ch : Int))) r := by
            unfold flt
            rw [List.filter_cons, if_pos (by simp; omega)]
          rw [e1, List.flatMap_cons, Int.toNat_natCast]
          have hkn : (kn : Int) ∉ orderS S ch := fun hm => by
            obtain ⟨k', e2, k1, _, k3, _⟩ := h.kid hx hk
            have : k' = kn := by omega
            subst this
            have hc := F.closed k' k1 (by rw [k3]; omega) e
            rw [decide_eq_true hm, k3] at hc
            exact hn (of_decide_eq_true hc)
          rw [order_leave h hch hcu (by omega) hDk hkn]
    exact key _ (fun _ h => h)

/-- What an insertion, or none, leaves as it was. -/
structure Moved (S A : List Nd) (pa ch : Nat) : Prop where
  wfS : WF S
  wfA : WF A
  len : A.length = S.length
  pl : pa < S.length
  cl : ch < S.length
  cu : (nd S ch).u = true
  par : (nd A ch).p = pa
  ord : orderS A ch = orderS S ch
  same : leaveG A ch = leaveG S ch
  un : ∀ i, i < S.length → (nd A i).u = (nd S i).u ∧ (nd A i).n = (nd S i).n

theorem not_below {S : List Nd} (h : WF S) {ch k : Nat} (hch : ch < S.length) (hcu : (nd S ch).u = true) (hk : k < S.length) (hkp : (nd S k).p < 0) (hne : k ≠ ch) : (k : Int) ∉ orderS S ch := fun hm => by
  have F := orderFacts h hch hcu
  obtain ⟨i, hi, e⟩ := List.getElem_of_mem hm
  obtain ⟨q, e1, e2, _, _, e5⟩ := F.each i hi
  rw [getD_elem _ _ hi, e] at e1
  have : q = k := by omega
  subst this
  by_cases h0 : i = 0
  · subst h0
    have := F.head
    rw [getD_elem _ _ hi, e] at this
    omega
  · have hp := e5 (by omega)
    obtain ⟨j, hj, ej⟩ := List.getElem_of_mem (List.mem_of_mem_take hp)
    obtain ⟨q', f1, _⟩ := F.each j hj
    rw [getD_elem _ _ hj, ej] at f1
    omega

theorem Moved.facts {S A : List Nd} {pa ch k : Nat} (m : Moved S A pa ch) (hk : k < S.length) (hku : (nd S k).u = true) (hkp : (nd S k).p < 0) (hkA : (nd A k).p < 0) (hne : k ≠ ch) :
    flt (fun y => decide (y ∈ orderS S ch)) (orderS S k) = flt (fun y => decide (y ∈ orderS S ch)) (orderS A k) ∧ decide ((ch : Int) ∈ orderS A k) = decide ((pa : Int) ∈ orderS A k) ∧
    ((ch : Int) ∈ orderS A k → ∃ l1 l2, orderS A k = l1 ++ orderS S ch ++ l2 ∧ idx (orderS A k) ch = (l1.length : Int)) := by
  have hcA : ch < A.length := by rw [m.len]; exact m.cl
  have hkA' : k < A.length := by rw [m.len]; exact hk
  have hcuA : (nd A ch).u = true := by rw [(m.un ch m.cl).1]; exact m.cu
  have hkuA : (nd A k).u = true := by rw [(m.un k hk).1]; exact hku
  have n1 := not_below m.wfS m.cl m.cu hk hkp hne
  have n2 := not_below m.wfA hcA hcuA hkA' hkA hne
  have h1 := order_leave m.wfS m.cl m.cu hk (m.wfS.deep_all hk) n1
  have h2 := order_leave m.wfA hcA hcuA hkA' (m.wfA.deep_all hkA') n2
  rw [m.same, m.ord, m.len] at h2
  have F := orderFacts m.wfA hkA' hkuA
  refine ⟨?_, ?_, fun hm => ?_⟩
  · have e1 : orderS A k = orderF A S.length k := by unfold orderS; rw [m.len]
    rw [e1, ← h2, h1]
    rfl
  · have := F.closed ch hcA (by rw [m.par]; omega) (Ne.symm hne)
    rw [m.par] at this
    exact this.symm
  · obtain ⟨l1, l2, e⟩ := order_block m.wfA hkA' (m.wfA.deep_all hkA') hm
    rw [m.ord] at e
    refine ⟨l1, l2, e, ?_⟩
    have hnd : (orderS A k).Nodup := nodup_order m.wfA hkA' (Nat.le_refl _) (m.wfA.deep_all hkA')
    have e' : orderS A k = l1 ++ orderS S ch ++ l2 := e
    have hhead : ∃ r, orderS S ch = (ch : Int) :: r := by
      obtain ⟨r, hr, _⟩ := par_root m.wfS m.cl (m.wfS.deep_all m.cl)
      exact ⟨r, hr⟩
    obtain ⟨r, hr⟩ := hhead
    rw [hr] at e'
    have hlen : l1.length < (orderS A k).length := by rw [e']; simp
    refine (idx_some hlen ?_ (fun i hi hq => ?_)).1
    · rw [e', getD_elem _ _ (by simp)]
      simp
    · rw [e', getD_elem _ _ (by simp; omega)] at hq
      rw [e', List.append_assoc] at hnd
      have hni := List.nodup_append.1 hnd
      rw [List.getElem_append_left (by simp; omega), List.getElem_append_left (by omega)] at hq
      exact hni.2.2 _ (List.getElem_mem (by omega)) (ch : Int) (by simp) hq
end Go.Proofs.Ytcohimljgjlkdab
