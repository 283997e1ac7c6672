/-
  For SlotOnce, without the program: whatever is shown below a node stands, at some step, under the host of the highest root around it (or under the node itself, if it stands in none).
-/
import Derived.Test.YthlpkdmmkfhleacJLh
import Derived.Test.YthlpkdmmkfhleacJLiLj
namespace Go.Proofs.Ythlpkdmmkfhleac
open Go.RowKit

/-- No root at a node or above it. -/
def NoRoot (S : List Nd) (t : Nat) : Prop := ∀ j r, Up S j t r → (nd S r).h = -1

theorem WF.up_path {S : List Nd} (h : WF S) {j k q : Nat} (hk : k < S.length) (hu : Up S j k q) : (q : Int) ∈ pathF S k := by
  obtain ⟨pre, e⟩ := h.path_suffix hk hu
  rw [e]
  exact List.mem_append_right _ (path_head S q)

theorem host_under {S : List Nd} {T p r H i j : Nat} (hT : NoRoot S T) (hi : Up S i p T) (hj : Up S j p r) (hH : H < S.length) (hh : (nd S r).h = H) : ∃ m, Up S m H T := by
  by_cases hij : i ≤ j
  · obtain ⟨y, h1, h2⟩ := Up.split (i := i) (j := j - i) (by rw [show i + (j - i) = j by omega]; exact hj)
    have := Up.det h1 hi
    subst this
    have := hT _ _ h2
    omega
  · obtain ⟨y, h1, h2⟩ := Up.split (i := j + 1) (j := i - (j + 1)) (by rw [show j + 1 + (i - (j + 1)) = i by omega]; exact hi)
    have h3 : Up S (j + 1) p H := hj.trans (WF.up_one hH (by unfold rightUnder; rw [if_neg (by omega)]; exact hh))
    have := Up.det h1 h3
    subst this
    exact ⟨_, h2⟩

theorem ShR.under {S : List Nd} (h : WF S) {g : Nat → List Int} (G : GivOk S g) {k T i : Nat} (hk : k < S.length) (hT : NoRoot S T) (hu : Up S i k T) : ∀ {j z : Nat}, ShR (showF S g) k j z → ∃ m, Up S m z T
  | 0, z, e => by cases e; exact ⟨i, hu⟩
  | j + 1, z, ⟨y, hy, hz⟩ => by
    obtain ⟨m, hm⟩ := ShR.under h G hk hT hu hy
    have y1 := (ShR.facts h G hk hy).1
    obtain ⟨k', q, e, hk', hq, _, _, _, hru, hw⟩ := show_ways h G y1 hz
    have : z = k' := by omega
    subst this
    have z1 : Up S 1 z q := WF.up_one hq hru
    rcases hw with hw | ⟨_, _, r, j2, hr, hrh, hup⟩ | ⟨_, rfl⟩
    · have q1 : Up S 1 q y := WF.up_one y1 (by unfold rightUnder; rw [if_neg (by omega)]; exact hw)
      exact ⟨_, z1.trans (q1.trans hm)⟩
    · obtain ⟨m2, hm2⟩ := host_under hT hm hup hq hrh
      exact ⟨_, z1.trans hm2⟩
    · exact ⟨_, z1.trans hm⟩

/-- The law's own loop: the host of the last root of a line. -/
def lastHost (S : List Nd) (acc : Int) (l : List Int) : Int := l.foldl (fun acc x => if 0 ≤ (nd S x.toNat).h then (nd S x.toNat).h else acc) acc

theorem last_host {S : List Nd} (h : WF S) : ∀ (n : Nat) {k : Nat}, k < S.length → (pathF S k).length ≤ n → ∀ acc : Int, (lastHost S acc (pathF S k) = acc ∧ NoRoot S k) ∨ ∃ t m : Nat, lastHost S acc (pathF S k) = t ∧ Up S m k t ∧ t < S.length ∧ NoRoot S t
  | 0, k, _, hl, _ => by
    have := path_head S k
    have : 0 < (pathF S k).length := List.length_pos_of_mem this
    omega
  | n + 1, k, hk, hl, acc => by
    by_cases hr : ∃ q : Nat, q < S.length ∧ rightUnder (nd S k) = q
    · obtain ⟨q, hq, hr⟩ := hr
      have e := h.path_up hk hq hr
      rw [e] at hl ⊢
      rw [List.length_cons] at hl
      have hs : lastHost S acc ((k : Int) :: pathF S q) = lastHost S (if 0 ≤ (nd S k).h then (nd S k).h else acc) (pathF S q) := by
        unfold lastHost
        rw [List.foldl_cons, Int.toNat_natCast]
      rw [hs]
      rcases last_host h n hq (by omega) (if 0 ≤ (nd S k).h then (nd S k).h else acc) with ⟨e1, e2⟩ | ⟨t, m, e1, e2, e3, e4⟩
      · by_cases hh : 0 ≤ (nd S k).h
        · rw [if_pos hh] at e1 ⊢
          have : (nd S k).h = q := by unfold rightUnder at hr; rw [if_neg (by omega)] at hr; exact hr
          exact Or.inr ⟨q, 1, e1.trans this, WF.up_one hq hr, hq, e2⟩
        · rw [if_neg hh] at e1 ⊢
          refine Or.inl ⟨e1, fun j r hu => ?_⟩
          cases j with
          | zero =>
            have : k = r := hu
            subst this
            have := (names_parts (node_parts (h.node k hk)).2.1).2.1
            unfold okPl at this
            simp at this
            omega
          | succ j =>
            obtain ⟨y, _, e5, hu2⟩ := hu
            have : y = q := by omega
            subst this
            exact e2 j r hu2
      · exact Or.inr ⟨t, 1 + m, e1, (WF.up_one hq hr).trans e2, e3, e4⟩
    · rw [WF.path_top hr]
      have hno : (nd S k).h = -1 := by
        have := (names_parts (node_parts (h.node k hk)).2.1).2.1
        unfold okPl at this
        simp at this
        by_cases hh : (nd S k).h = -1
        · exact hh
        · refine absurd ⟨(nd S k).h.toNat, ?_, ?_⟩ hr
          · omega
          · unfold rightUnder
            rw [if_neg hh]
            omega
      refine Or.inl ⟨?_, fun j r hu => ?_⟩
      · unfold lastHost
        simp [hno]
      · cases j with
        | zero =>
          have : k = r := hu
          subst this
          exact hno
        | succ j =>
          obtain ⟨y, hy, e5, _⟩ := hu
          exact absurd ⟨y, hy, e5⟩ hr

/-- What is shown below k has on its line the host that SlotOnce reckons. -/
theorem flat_host {S : List Nd} (h : WF S) {k : Nat} (hk : k < S.length) {x : Int} (hx : x ∈ flatF S k) : ∃ q : Nat, x = q ∧ q < S.length ∧ (q = k ∨ (nd S q).u = true) ∧ lastHost S k (pathF S k) ∈ pathF S q := by
  obtain ⟨j, q, e, hq⟩ := mem_orderG h (giv_ok h) hk x hx
  obtain ⟨f1, _, _, f4, _⟩ := ShR.facts h (giv_ok h) hk hq
  refine ⟨q, e, f1, f4, ?_⟩
  rcases last_host h _ hk (Nat.le_refl _) (k : Int) with ⟨e1, e2⟩ | ⟨t, m, e1, e2, _, e4⟩
  · rw [e1]
    obtain ⟨m, hm⟩ := ShR.under h (giv_ok h) hk e2 (i := 0) rfl hq
    exact h.up_path f1 hm
  · rw [e1]
    obtain ⟨m2, hm⟩ := ShR.under h (giv_ok h) hk e4 e2 hq
    exact h.up_path f1 hm

theorem flat_nodup {S : List Nd} (h : WF S) {k : Nat} (hk : k < S.length) : (flatF S k).Nodup := nodup_orderG h (giv_ok h) hk (i := 0) rfl
end Go.Proofs.Ythlpkdmmkfhleac

namespace Go.Proofs.Ythlpkdmmkfhleac
open Go.RowKit

theorem slotsF_one {S : List Nd} (h : WF S) {H : Nat} {s s' : Slt} (hs : s ∈ slotsF S H) (hs' : s' ∈ slotsF S H) {c : Int} (hc : c ∈ s.gv) (hc' : c ∈ s'.gv) : s = s' := by
  obtain ⟨r, _, _, _, _, e1, _, _, _, _, _, _, m1⟩ := slotsF_mem h hs
  obtain ⟨r', _, _, _, _, e2, _, _, _, _, _, _, m2⟩ := slotsF_mem h hs'
  have : r = r' := by omega
  subst this
  exact slots_one m1 m2 hc hc'

theorem given_facts {S : List Nd} (h : WF S) {k : Nat} (hk : k < S.length) {i : Nat} (hi : i < (slotsF S k).length) {c : Int} (hc : c ∈ (slt (slotsF S k) i).gv) :
    ∃ n : Nat, c = n ∧ n < S.length ∧ (nd S n).u = true ∧ (nd S n).p = k ∧ toF S n = (slt (slotsF S k) i).pl ∧ findE S n (nd S n).n = 0 := by
  have hm : ∀ {j}, j < (slotsF S k).length → slt (slotsF S k) j ∈ slotsF S k := fun hj => by rw [slt_elem hj]; exact List.getElem_mem hj
  obtain ⟨_, _, _, _, _, _, _, _, _, _, _, r6, _⟩ := slotsF_mem h (hm hi)
  have e := r6.resolve_left (fun e => by rw [e] at hc; cases hc)
  have hc2 := hc
  rw [e] at hc2
  obtain ⟨n, rfl, hn, hu, hp, _⟩ := h.kid hk (mem_marked.1 hc2).1
  refine ⟨n, rfl, hn, hu, hp, ?_, find_zero h (holds_used hn hu rfl h)⟩
  unfold toF
  have hP : slotsP S n = slotsF S k := by unfold slotsP; rw [hp, if_neg (by omega), Int.toNat_natCast]
  rw [hP]
  have nd1 := nodup_filter_pl h (H := k)
  refine toL_some hi hc (fun j hj hcj => ?_)
  have e2 := slotsF_one h (hm (show j < (slotsF S k).length by omega)) (hm hi) hcj hc
  have := List.nodup_iff_pairwise_ne.1 nd1
  rw [List.pairwise_iff_getElem] at this
  have h3 := this j i (by rw [List.length_map]; omega) (by rw [List.length_map]; omega) hj
  rw [List.getElem_map, List.getElem_map, ← slt_elem (by omega), ← slt_elem hi, e2] at h3
  exact h3 rfl

theorem given_nodup {S : List Nd} (h : WF S) {k : Nat} (hk : k < S.length) : ((slotsF S k).flatMap Slt.gv).Nodup := by
  have nd1 := nodup_filter_pl h (H := k)
  have nd2 : (slotsF S k).Nodup := by
    rw [List.nodup_iff_pairwise_ne] at nd1 ⊢
    rw [List.pairwise_map] at nd1
    exact nd1.imp (fun hne e => hne (by rw [e]))
  refine nodup_flat _ _ nd2 (fun s hs => ?_) (fun s hs s' hs' hne x hx hx' => hne (slotsF_one h hs hs' hx hx'))
  obtain ⟨_, _, _, _, _, _, _, _, _, _, _, r6, _⟩ := slotsF_mem h hs
  rcases r6 with e | e
  · rw [e]; exact List.nodup_nil
  · rw [e]
    unfold markedF flt
    exact (h.kids_nodup hk).filter _
end Go.Proofs.Ythlpkdmmkfhleac
