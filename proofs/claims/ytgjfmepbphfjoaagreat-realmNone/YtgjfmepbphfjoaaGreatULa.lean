/-
  What is shown where, without the program: each step of what is shown goes on to a node of greater number (a step to a root counts 1, a step to a child 2, in base 3), and nobody is shown by two; so a walk along what is shown ends, and names nobody twice.
-/
import Derived.Test.YtgjfmepbphfjoaaGreatUZaTl
import Derived.Test.YtgjfmepbphfjoaaGreatUXaWf
import Derived.Test.YtgjfmepbphfjoaaGreatUSkSl
namespace Go.Proofs.YtgjfmepbphfjoaaGreat
open Go.RowKit

def digF (n : Nd) : Nat := if n.h = -1 then 2 else 1
def valF (S : List Nd) (L : Nat) : List Int → Nat
  | [] => 0
  | x :: r => valF S L r + digF (nd S x.toNat) * 3 ^ (L - (r.length + 1))
def vF (S : List Nd) (k : Nat) : Nat := valF S (S.length + 2) (pathF S k)
def eF (S : List Nd) (k : Nat) : Nat := vF S k + 3 ^ (S.length + 2 - (pathF S k).length)

theorem dig_two (n : Nd) : 1 ≤ digF n ∧ digF n ≤ 2 := by unfold digF; split <;> omega

theorem WF.v_up {S : List Nd} (h : WF S) {k q : Nat} (hk : k < S.length) (hq : q < S.length) (hr : rightUnder (nd S k) = q) :
    ∃ P, 0 < P ∧ vF S k = vF S q + digF (nd S k) * P ∧ eF S k = vF S q + digF (nd S k) * P + P ∧ eF S q = vF S q + 3 * P ∧ P = 3 ^ (S.length + 1 - (pathF S q).length) := by
  have hp := h.path_up hk hq hr
  have hl := path_len S q
  refine ⟨3 ^ (S.length + 1 - (pathF S q).length), Nat.pow_pos (by omega), ?_, ?_, ?_, rfl⟩
  · unfold vF
    rw [hp, valF, Int.toNat_natCast, show S.length + 2 - ((pathF S q).length + 1) = S.length + 1 - (pathF S q).length by omega]
  · unfold eF vF
    rw [hp, valF, Int.toNat_natCast, List.length_cons, show S.length + 2 - ((pathF S q).length + 1) = S.length + 1 - (pathF S q).length by omega]
  · unfold eF
    rw [show S.length + 2 - (pathF S q).length = (S.length + 1 - (pathF S q).length) + 1 by omega, Nat.pow_succ, Nat.mul_comm]

theorem WF.v_step {S : List Nd} (h : WF S) {k q : Nat} (hk : k < S.length) (hq : q < S.length) (hr : rightUnder (nd S k) = q) : vF S q < vF S k ∧ eF S k ≤ eF S q := by
  obtain ⟨P, h0, h1, h2, h3, _⟩ := h.v_up hk hq hr
  have hd := dig_two (nd S k)
  rcases (show digF (nd S k) = 1 ∨ digF (nd S k) = 2 by omega) with e | e <;> rw [e] at h1 h2 <;> omega

theorem WF.v_Up {S : List Nd} (h : WF S) : ∀ {j x y : Nat}, x < S.length → Up S j x y → vF S y ≤ vF S x ∧ eF S x ≤ eF S y
  | 0, _, _, _, e => by cases e; omega
  | j + 1, x, y, hx, ⟨z, hz, hr, hu⟩ => by
    have h1 := h.v_step hx hz hr
    have h2 := h.v_Up hz hu
    omega

theorem v_e (S : List Nd) (k : Nat) : vF S k < eF S k := by
  unfold eF
  have : 0 < 3 ^ (S.length + 2 - (pathF S k).length) := Nat.pow_pos (by omega)
  omega

/-- Who stands in the root of a node comes ahead of the node's children. -/
theorem WF.v_given {S : List Nd} (h : WF S) {H r c p j : Nat} (hH : H < S.length) (hr : r < S.length) (hc : c < S.length) (hp : p < S.length) (hh : (nd S r).h = H) (hu : Up S j p r) (hcp : rightUnder (nd S c) = H) (hch : (nd S c).h = -1) : vF S p < vF S c := by
  have hrr : rightUnder (nd S r) = H := by unfold rightUnder; rw [if_neg (by omega)]; exact hh
  obtain ⟨P, h0, h1, h2, h3, e⟩ := h.v_up hr hH hrr
  obtain ⟨P', h0', h1', h2', h3', e'⟩ := h.v_up hc hH hcp
  rw [← e] at e'
  subst e'
  have hd : digF (nd S r) = 1 := by unfold digF; rw [if_neg (by omega)]
  have hd' : digF (nd S c) = 2 := by unfold digF; rw [if_pos hch]
  rw [hd] at h1 h2
  rw [hd'] at h1' h2'
  have hv := (h.v_Up hp hu).2
  have := v_e S p
  omega

theorem rootE_cases (S : List Nd) (x : Int) (h : rootE S x ≠ -1) : ∃ r : Nat, r < S.length ∧ rootE S x = r ∧ (nd S r).h = x ∧ x ≠ -1 := by
  unfold rootE at *
  by_cases hx : x = -1
  · rw [if_pos hx] at h
    exact absurd rfl h
  · rw [if_neg hx] at *
    cases hf : S.findIdx? fun n => decide (n.h = x) with
    | none => rw [hf] at h; exact absurd rfl h
    | some k =>
      obtain ⟨h1, h2, _⟩ := List.findIdx?_eq_some_iff_getElem.1 hf
      exact ⟨k, h1, rfl, by rw [nd_elem h1]; exact of_decide_eq_true h2, hx⟩

theorem rootE_no {S : List Nd} {x : Int} (hx : x ≠ -1) (h : rootE S x = -1) (i : Nat) (hi : i < S.length) : (nd S i).h ≠ x := fun e => by
  unfold rootE at h
  rw [if_neg hx] at h
  cases hf : S.findIdx? fun n => decide (n.h = x) with
  | none =>
    have := List.findIdx?_eq_none_iff.1 hf S[i] (List.getElem_mem hi)
    rw [← nd_elem hi] at this
    exact of_decide_eq_false this e
  | some k => rw [hf] at h; simp at h

/-- What is shown right below a place, where g tells what a slot is given. -/
def showF (S : List Nd) (g : Nat → List Int) (p : Nat) : List Int := if rootE S p ≠ -1 then (nd S (rootE S p).toNat).ks else if g p ≠ [] then g p else (nd S p).ks

structure GivOk (S : List Nd) (g : Nat → List Int) : Prop where
  some : ∀ p, p < S.length → ∀ c ∈ g p, ∃ H r j : Nat, H < S.length ∧ r < S.length ∧ (nd S r).h = H ∧ Up S j p r ∧ c ∈ (nd S H).ks
  one : ∀ p p' c, p < S.length → p' < S.length → c ∈ g p → c ∈ g p' → p = p'
  nodup : ∀ p, p < S.length → (g p).Nodup

/-- The three ways to be shown. -/
theorem show_ways {S : List Nd} (h : WF S) {g : Nat → List Int} (G : GivOk S g) {p : Nat} (hp : p < S.length) {c : Int} (hc : c ∈ showF S g p) :
    ∃ k q : Nat, c = k ∧ k < S.length ∧ q < S.length ∧ (nd S k).u = true ∧ (nd S k).h = -1 ∧ (nd S k).p = q ∧ rightUnder (nd S k) = q ∧
      ((nd S q).h = p ∨ (rootE S p = -1 ∧ c ∈ g p ∧ ∃ r j : Nat, r < S.length ∧ (nd S r).h = q ∧ Up S j p r) ∨ (rootE S p = -1 ∧ q = p)) := by
  unfold showF at hc
  split at hc
  · rename_i hr
    obtain ⟨r, h1, h2, h3, _⟩ := rootE_cases S p hr
    rw [h2, Int.toNat_natCast] at hc
    obtain ⟨k, e, k1, k2, k3, k4⟩ := h.kid h1 hc
    exact ⟨k, r, e, k1, h1, k2, (h.host_of_parent k1 (by omega)).1, k3, k4, Or.inl h3⟩
  · rename_i hr
    have hr' : rootE S p = -1 := Decidable.not_not.1 hr
    split at hc
    · obtain ⟨H, r, j, h1, h2, h3, h4, h5⟩ := G.some p hp c hc
      obtain ⟨k, e, k1, k2, k3, k4⟩ := h.kid h1 h5
      exact ⟨k, H, e, k1, h1, k2, (h.host_of_parent k1 (by omega)).1, k3, k4, Or.inr (Or.inl ⟨hr', hc, r, j, h2, h3, h4⟩)⟩
    · obtain ⟨k, e, k1, k2, k3, k4⟩ := h.kid hp hc
      exact ⟨k, p, e, k1, hp, k2, (h.host_of_parent k1 (by omega)).1, k3, k4, Or.inr (Or.inr ⟨hr', rfl⟩)⟩

theorem show_more {S : List Nd} (h : WF S) {g : Nat → List Int} (G : GivOk S g) {p : Nat} (hp : p < S.length) {c : Int} (hc : c ∈ showF S g p) :
    ∃ k : Nat, c = k ∧ k < S.length ∧ (nd S k).u = true ∧ (nd S k).h = -1 ∧ vF S p < vF S k := by
  obtain ⟨k, q, e, hk, hq, hu, hh, hpq, hru, hw⟩ := show_ways h G hp hc
  refine ⟨k, e, hk, hu, hh, ?_⟩
  rcases hw with hw | ⟨_, _, r, j, hr, hrh, hup⟩ | ⟨_, rfl⟩
  · have h1 := (h.v_step hk hq hru).1
    have h2 := (h.v_step hq hp (by unfold rightUnder; rw [if_neg (by omega)]; exact hw)).1
    omega
  · exact h.v_given hq hr hk hp hrh hup hru hh
  · exact (h.v_step hk hq hru).1

/-- z is shown below c, so many steps down. -/
def ShR (ks : Nat → List Int) (c : Nat) : Nat → Nat → Prop
  | 0, z => z = c
  | j + 1, z => ∃ y, ShR ks c j y ∧ (z : Int) ∈ ks y

theorem ShR.front {ks : Nat → List Int} {p c : Nat} (hc : (c : Int) ∈ ks p) : ∀ {j z : Nat}, ShR ks c j z → ShR ks p (j + 1) z
  | 0, z, e => by cases e; exact ⟨p, rfl, hc⟩
  | j + 1, z, ⟨y, hy, hz⟩ => ⟨y, ShR.front hc hy, hz⟩

theorem ShR.trans {ks : Nat → List Int} {p c i : Nat} (h : ShR ks p i c) : ∀ {j z : Nat}, ShR ks c j z → ShR ks p (i + j) z
  | 0, z, e => by cases e; exact h
  | j + 1, z, ⟨y, hy, hz⟩ => ⟨y, ShR.trans h hy, hz⟩

theorem ShR.facts {S : List Nd} (h : WF S) {g : Nat → List Int} (G : GivOk S g) {k : Nat} (hk : k < S.length) : ∀ {j z : Nat}, ShR (showF S g) k j z → z < S.length ∧ vF S k ≤ vF S z ∧ (z = k ∨ (nd S z).h = -1) ∧ (z = k ∨ (nd S z).u = true) ∧ (1 ≤ j → vF S k < vF S z ∧ (nd S z).h = -1 ∧ (nd S z).u = true)
  | 0, z, e => by cases e; exact ⟨hk, Nat.le_refl _, Or.inl rfl, Or.inl rfl, fun h => by omega⟩
  | j + 1, z, ⟨y, hy, hz⟩ => by
    obtain ⟨h1, h2, _⟩ := ShR.facts h G hk hy
    obtain ⟨k', e, k1, ku, k2, k3⟩ := show_more h G h1 hz
    have : z = k' := by omega
    subst this
    exact ⟨k1, by omega, Or.inr k2, Or.inr ku, fun _ => ⟨by omega, k2, ku⟩⟩

/-- Into the root of a root nobody comes but from there. -/
theorem ShR.inner {S : List Nd} (h : WF S) {g : Nat → List Int} (G : GivOk S g) {k r r' : Nat} (hk : k < S.length) (hr : r < S.length) (hr' : r' < S.length) (hh : (nd S r').h = r) (hrh : (nd S r).h ≠ -1) : ∀ {j z i : Nat}, ShR (showF S g) k j z → Up S i z r' → k = r ∨ ∃ i, Up S i k r'
  | 0, z, i, e, hu => by cases e; exact Or.inr ⟨i, hu⟩
  | j + 1, z, i, ⟨y, hy, hz⟩, hu => by
    obtain ⟨y1, y2, y3, _⟩ := ShR.facts h G hk hy
    obtain ⟨k', q, e, hk', hq, hku, hkh, hpq, hru, hw⟩ := show_ways h G y1 hz
    have : z = k' := by omega
    subst this
    cases i with
    | zero =>
      have : z = r' := hu
      subst this
      omega
    | succ i =>
      obtain ⟨q', hq', hru', hu'⟩ := hu
      have : q' = q := by omega
      subst this
      rcases hw with hw | ⟨_, _, r2, j2, hr2, hrh2, hup⟩ | ⟨_, rfl⟩
      · by_cases e : q' = r'
        · subst e
          have : y = r := by omega
          subst this
          exact Or.inl (y3.resolve_right hrh).symm
        · cases i with
          | zero => exact absurd hu' e
          | succ i =>
            obtain ⟨q2, hq2, hru2, hu2⟩ := hu'
            have : q2 = y := by unfold rightUnder at hru2; rw [if_neg (by omega)] at hru2; omega
            subst this
            exact ShR.inner h G hk hr hr' hh hrh hy hu2
      · have h3 : Up S 1 r2 q' := WF.up_one hq' (by unfold rightUnder; rw [if_neg (by omega)]; exact hrh2)
        exact ShR.inner h G hk hr hr' hh hrh hy (hup.trans (h3.trans hu'))
      · exact ShR.inner h G hk hr hr' hh hrh hy hu'

/-- Nobody is shown by two. -/
theorem ShR.one {S : List Nd} (h : WF S) {g : Nat → List Int} (G : GivOk S g) {k i i' p p' : Nat} (hk : k < S.length) (h1 : ShR (showF S g) k i p) (h2 : ShR (showF S g) k i' p') {c : Int} (hc : c ∈ showF S g p) (hc' : c ∈ showF S g p') : p = p' := by
  obtain ⟨p1, p2, p3, _⟩ := ShR.facts h G hk h1
  obtain ⟨q1, q2, q3, _⟩ := ShR.facts h G hk h2
  obtain ⟨z, q, e, hz, hq, hzu, hzh, hzp, hzr, hw⟩ := show_ways h G p1 hc
  obtain ⟨z', q', e', hz', hq', hzu', hzh', hzp', hzr', hw'⟩ := show_ways h G q1 hc'
  have : z' = z := by omega
  subst this
  have : q' = q := by omega
  subst this
  have up : ∀ {a : Nat}, a < S.length → (nd S q').h = a → vF S a < vF S q' := fun ha e => (h.v_step hq ha (by unfold rightUnder; rw [if_neg (by omega)]; exact e)).1
  have inn : ∀ {a b r j i : Nat}, a < S.length → ShR (showF S g) k i b → vF S k ≤ vF S a → (nd S q').h = a → r < S.length → (nd S r).h = q' → Up S j b r → False := fun {a b r j i} ha hb hv hqa hr hrq hu => by
    have hva := up ha hqa
    rcases ShR.inner h G hk hq hr hrq (by omega) hb hu with e | ⟨i, hi⟩
    · subst e; omega
    · have h3 := (h.v_Up hk hi).1
      have h4 := (h.v_step hr hq (by unfold rightUnder; rw [if_neg (by omega)]; exact hrq)).1
      omega
  rcases hw with hw | ⟨n1, m1, r, j, hr, hrh, hup⟩ | ⟨n1, e1⟩ <;> rcases hw' with hw' | ⟨n2, m2, r2, j2, hr2, hrh2, hup2⟩ | ⟨n2, e2⟩
  · omega
  · exact (inn p1 h2 p2 hw hr2 hrh2 hup2).elim
  · subst e2
    have := up p1 hw
    rcases q3 with e | e
    · subst e; omega
    · omega
  · exact (inn q1 h1 q2 hw' hr hrh hup).elim
  · exact G.one _ _ c p1 q1 m1 m2
  · subst e2
    exact absurd hrh (rootE_no (by omega) n2 r hr)
  · subst e1
    have := up q1 hw'
    rcases p3 with e | e
    · subst e; omega
    · omega
  · subst e1
    exact absurd hrh2 (rootE_no (by omega) n1 r2 hr2)
  · omega

theorem ShR.apart {S : List Nd} (h : WF S) {g : Nat → List Int} (G : GivOk S g) {k i p c c' : Nat} (hk : k < S.length) (hp : ShR (showF S g) k i p) (hc : (c : Int) ∈ showF S g p) (hc' : (c' : Int) ∈ showF S g p) (hne : c ≠ c') :
    ∀ {j j' z : Nat}, ShR (showF S g) c j z → ShR (showF S g) c' j' z → False := by
  have hP := (ShR.facts h G hk hp).1
  have first : ∀ {a b j : Nat}, (a : Int) ∈ showF S g p → (b : Int) ∈ showF S g p → a ≠ b → ShR (showF S g) b j a → False := fun {a b j} ha hb hab hs => by
    cases j with
    | zero => exact hab hs
    | succ j =>
      obtain ⟨y, hy, hya⟩ := hs
      have e := ShR.one h G hk hp (hp.trans (ShR.front hb hy)) ha hya
      subst e
      obtain ⟨b', e, b1, _, _, b2⟩ := show_more h G hP hb
      have : b' = b := by omega
      subst this
      have := (ShR.facts h G b1 hy).2.1
      omega
  intro j
  induction j with
  | zero =>
    intro j' z h1 h2
    have : z = c := h1
    subst this
    exact first hc hc' hne h2
  | succ j ih =>
    intro j' z h1 h2
    cases j' with
    | zero =>
      have : z = c' := h2
      subst this
      exact first hc' hc (Ne.symm hne) h1
    | succ j' =>
      obtain ⟨y, hy, hyz⟩ := h1
      obtain ⟨y', hy', hyz'⟩ := h2
      have e := ShR.one h G hk (hp.trans (ShR.front hc hy)) (hp.trans (ShR.front hc' hy')) hyz hyz'
      subst e
      exact ih hy hy'

theorem mem_orderG {S : List Nd} (h : WF S) {g : Nat → List Int} (G : GivOk S g) : ∀ {f p : Nat}, p < S.length → ∀ x ∈ orderG (showF S g) f p, ∃ j q : Nat, x = q ∧ ShR (showF S g) p j q
  | 0, p, _, x, hx => ⟨0, p, by simpa [orderG] using hx, rfl⟩
  | f + 1, p, hp, x, hx => by
    simp only [orderG, List.mem_cons, List.mem_flatMap] at hx
    rcases hx with rfl | ⟨c, hc, hx⟩
    · exact ⟨0, p, rfl, rfl⟩
    · obtain ⟨k, rfl, hk, _⟩ := show_more h G hp hc
      rw [Int.toNat_natCast] at hx
      obtain ⟨j, q, e, hq⟩ := mem_orderG h G hk x hx
      exact ⟨j + 1, q, e, ShR.front hc hq⟩

theorem show_nodup {S : List Nd} (h : WF S) {g : Nat → List Int} (G : GivOk S g) {p : Nat} (hp : p < S.length) : (showF S g p).Nodup := by
  unfold showF
  split
  · rename_i hr
    obtain ⟨r, h1, h2, _⟩ := rootE_cases S p hr
    rw [h2, Int.toNat_natCast]
    exact h.kids_nodup h1
  · split
    · exact G.nodup p hp
    · exact h.kids_nodup hp

theorem nodup_orderG {S : List Nd} (h : WF S) {g : Nat → List Int} (G : GivOk S g) {k : Nat} (hk : k < S.length) : ∀ {f i p : Nat}, ShR (showF S g) k i p → (orderG (showF S g) f p).Nodup
  | 0, _, p, _ => by simp [orderG]
  | f + 1, i, p, hs => by
    have hp := (ShR.facts h G hk hs).1
    simp only [orderG]
    rw [List.nodup_cons]
    refine ⟨fun hm => ?_, nodup_flat _ _ (show_nodup h G hp) (fun x hx => ?_) (fun x hx y hy hne z hz hz' => ?_)⟩
    · obtain ⟨x, hx, hm⟩ := List.mem_flatMap.1 hm
      obtain ⟨c, rfl, hc, _, _, hv⟩ := show_more h G hp hx
      rw [Int.toNat_natCast] at hm
      obtain ⟨j, q, e, hq⟩ := mem_orderG h G hc _ hm
      have : q = p := by omega
      subst this
      have := (ShR.facts h G hc hq).2.1
      omega
    · obtain ⟨c, rfl, hc, _⟩ := show_more h G hp hx
      rw [Int.toNat_natCast]
      exact nodup_orderG h G hk (i := i + 1) ⟨p, hs, hx⟩
    · obtain ⟨c, rfl, hc, _⟩ := show_more h G hp hx
      obtain ⟨c', rfl, hc', _⟩ := show_more h G hp hy
      rw [Int.toNat_natCast] at hz hz'
      obtain ⟨j, q, e, hq⟩ := mem_orderG h G hc _ hz
      obtain ⟨j', q', e', hq'⟩ := mem_orderG h G hc' _ hz'
      have : q = q' := by omega
      subst this
      exact ShR.apart h G hk hs hx hy (fun e => hne (by rw [e])) hq hq'

theorem orderG_le {S : List Nd} (h : WF S) {g : Nat → List Int} (G : GivOk S g) {k : Nat} (hk : k < S.length) (f : Nat) : (orderG (showF S g) f k).length ≤ S.length := by
  have h1 := nodup_orderG h G hk (f := f) (i := 0) (p := k) rfl
  have := h1.length_le_of_subset (l₂ := (List.range S.length).map (fun i : Nat => (i : Int))) (fun x hx => by
    obtain ⟨j, q, rfl, hq⟩ := mem_orderG h G hk x hx
    exact List.mem_map.2 ⟨q, List.mem_range.2 (ShR.facts h G hk hq).1, rfl⟩)
  simpa using this

theorem val_lt (S : List Nd) (L : Nat) : ∀ l : List Int, l.length ≤ L → valF S L l + 3 ^ (L - l.length) ≤ 3 ^ L
  | [], _ => by simp [valF]
  | x :: r, hl => by
    rw [List.length_cons] at hl
    have ih := val_lt S L r (by omega)
    have hd := dig_two (nd S x.toNat)
    rw [valF, List.length_cons]
    rw [show L - r.length = (L - (r.length + 1)) + 1 by omega, Nat.pow_succ] at ih
    rcases (show digF (nd S x.toNat) = 1 ∨ digF (nd S x.toNat) = 2 by omega) with e | e <;> rw [e] <;> omega

theorem v_lt (S : List Nd) (k : Nat) : vF S k < 3 ^ (S.length + 2) := by
  have h1 := val_lt S (S.length + 2) (pathF S k) (by have := path_len S k; omega)
  have : 0 < 3 ^ (S.length + 2 - (pathF S k).length) := Nat.pow_pos (by omega)
  unfold vF
  omega

theorem deep_show {S : List Nd} (h : WF S) {g : Nat → List Int} (G : GivOk S g) : ∀ {f p : Nat}, p < S.length → 3 ^ (S.length + 2) ≤ vF S p + f → DeepG (showF S g) S.length f p
  | 0, p, _, hv => by have := v_lt S p; omega
  | f + 1, p, hp, hv => fun c hc => by
    obtain ⟨k, rfl, hk, _, _, h1⟩ := show_more h G hp hc
    rw [Int.toNat_natCast]
    exact ⟨⟨by omega, by omega⟩, deep_show h G hk (by omega)⟩

/-- How far a walk along what is shown may go. -/
def farF (S : List Nd) : Nat := 3 ^ (S.length + 2)

theorem deep_show_all {S : List Nd} (h : WF S) {g : Nat → List Int} (G : GivOk S g) {p : Nat} (hp : p < S.length) : DeepG (showF S g) S.length (farF S) p := deep_show h G hp (by unfold farF; omega)
end Go.Proofs.YtgjfmepbphfjoaaGreat
