/-
  The order of what stands under a node of a right store, without the program: each once, behind its parent; nobody else.
-/
import Derived.Test.YtjlapfgghljidabUTbTcTfSn
import Derived.Test.YtjlapfgghljidabUTl
import Derived.Test.YtjlapfgghljidabUSmBoSpLay
import Derived.BigQuiet
namespace Go.Proofs.Ytjlapfgghljidab
open Go.RowKit

theorem WF.kid_deep {S : List Nd} (h : WF S) {f p : Nat} (hp : p < S.length) (hD : Deep S (f + 1) p) {x : Int} (hx : x ∈ (nd S p).ks) :
    ∃ k : Nat, x = k ∧ k < S.length ∧ (nd S k).u = true ∧ (nd S k).p = p ∧ rightUnder (nd S k) = p ∧ Deep S f k := by
  obtain ⟨k, rfl, h1, h2, h3, h4⟩ := h.kid hp hx
  have := (hD (k : Int) hx).2
  rw [Int.toNat_natCast] at this
  exact ⟨k, rfl, h1, h2, h3, h4, this⟩

theorem mem_order {S : List Nd} (h : WF S) : ∀ {f p : Nat}, p < S.length → Deep S f p → ∀ x ∈ orderF S f p, ∃ q : Nat, x = q ∧ q < S.length ∧ (q = p ∨ (nd S q).u = true) ∧ ∃ j, j ≤ f ∧ Up S j q p
  | 0, p, hp, _, x, hx => by
    have : x = (p : Int) := by simpa [orderF] using hx
    exact ⟨p, this, hp, Or.inl rfl, 0, Nat.le_refl _, rfl⟩
  | f + 1, p, hp, hD, x, hx => by
    simp only [orderF, List.mem_cons, List.mem_flatMap] at hx
    rcases hx with rfl | ⟨k, hk, hx⟩
    · exact ⟨p, rfl, hp, Or.inl rfl, 0, by omega, rfl⟩
    · obtain ⟨k, rfl, h1, h2, h3, h4, h5⟩ := h.kid_deep hp hD hk
      rw [Int.toNat_natCast] at hx
      obtain ⟨q, e, hq, hu, j, hj, hup⟩ := mem_order h h1 h5 x hx
      refine ⟨q, e, hq, Or.inr ?_, j + 1, by omega, hup.trans (WF.up_one hp h4)⟩
      rcases hu with rfl | hu
      · exact h2
      · exact hu

theorem nodup_flat {α β : Type} (g : α → List β) : ∀ (ks : List α), ks.Nodup → (∀ k ∈ ks, (g k).Nodup) → (∀ k ∈ ks, ∀ k' ∈ ks, k ≠ k' → ∀ x ∈ g k, x ∉ g k') → (ks.flatMap g).Nodup
  | [], _, _, _ => by simp
  | k :: ks, hn, hg, hd => by
    rw [List.flatMap_cons, List.nodup_append]
    obtain ⟨h1, h2⟩ := List.nodup_cons.1 hn
    refine ⟨hg k (by simp), nodup_flat g ks h2 (fun k' hk' => hg k' (by simp [hk'])) (fun a ha b hb => hd a (by simp [ha]) b (by simp [hb])), fun x hx y hy e => ?_⟩
    obtain ⟨k', hk', hy⟩ := List.mem_flatMap.1 hy
    exact hd k (by simp) k' (by simp [hk']) (fun e => h1 (by rw [e]; exact hk')) x hx (by rw [e]; exact hy)

theorem cntU_mono (S : List Nd) (j : Nat) : ∀ {k k' : Nat}, k ≤ k' → k' ≤ S.length → cntU S k j ≤ cntU S k' j := by
  intro k k' hk
  induction hk with
  | refl => intro _; exact Nat.le_refl _
  | step _ ih =>
    intro h
    rw [cntU_succ S _ j (by omega)]
    have := ih (by omega)
    omega

theorem WF.kids_nodup {S : List Nd} (h : WF S) {i : Nat} (hi : i < S.length) : (nd S i).ks.Nodup := by
  rw [List.nodup_iff_count]
  intro x
  by_cases hx : x ∈ (nd S i).ks
  · obtain ⟨k, rfl, hk, _⟩ := h.kid hi hx
    have h1 := (h.kids.2 k hk).1
    have h2 := cntU_succ S i k hi
    have h3 := cntU_mono S k (k := i + 1) (k' := S.length) (by omega) (Nat.le_refl _)
    omega
  · rw [List.count_eq_zero.2 hx]; omega

/-- Who has a parent stands in its children. -/
theorem WF.in_kids {S : List Nd} (h : WF S) {k : Nat} (hk : k < S.length) {y : Nat} (hp : (nd S k).p = y) : y < S.length ∧ (k : Int) ∈ (nd S y).ks := by
  have hc := (h.kids.2 k hk).2 (by omega)
  unfold cntU at hc
  rw [List.take_length] at hc
  have hm : (k : Int) ∈ S.flatMap Nd.ks := by
    by_cases hm : (k : Int) ∈ S.flatMap Nd.ks
    · exact hm
    · exact absurd (List.count_eq_zero.2 hm) hc
  obtain ⟨x, hx, hkx⟩ := List.mem_flatMap.1 hm
  obtain ⟨i, hi, rfl⟩ := List.getElem_of_mem hx
  rw [← nd_elem hi] at hkx
  obtain ⟨k', e, _, _, h3, _⟩ := h.kid hi hkx
  have : k' = k := by omega
  subst this
  have : y = i := by omega
  subst this
  exact ⟨hi, hkx⟩

theorem nodup_order {S : List Nd} (h : WF S) : ∀ {f p : Nat}, p < S.length → f ≤ S.length → Deep S f p → (orderF S f p).Nodup
  | 0, p, _, _, _ => by simp [orderF]
  | f + 1, p, hp, hf, hD => by
    simp only [orderF]
    rw [List.nodup_cons]
    refine ⟨fun hm => ?_, nodup_flat _ _ (h.kids_nodup hp) (fun x hx => ?_) (fun x hx y hy hne z hz hz' => ?_)⟩
    · obtain ⟨x, hx, hm⟩ := List.mem_flatMap.1 hm
      obtain ⟨k, rfl, h1, h2, h3, h4, h5⟩ := h.kid_deep hp hD hx
      rw [Int.toNat_natCast] at hm
      obtain ⟨q, e, hq, _, j, hj, hup⟩ := mem_order h h1 h5 _ hm
      have : q = p := by omega
      subst this
      exact h.no_ring hp (j := j + 1) (by omega) (by omega) (hup.trans (WF.up_one hp h4))
    · obtain ⟨k, rfl, h1, h2, h3, h4, h5⟩ := h.kid_deep hp hD hx
      rw [Int.toNat_natCast]
      exact nodup_order h h1 (by omega) h5
    · obtain ⟨k, rfl, h1, h2, h3, h4, h5⟩ := h.kid_deep hp hD hx
      obtain ⟨k', rfl, h1', h2', h3', h4', h5'⟩ := h.kid_deep hp hD hy
      rw [Int.toNat_natCast] at hz hz'
      obtain ⟨q, e, hq, _, j, hj, hup⟩ := mem_order h h1 h5 _ hz
      obtain ⟨q', e', hq', _, j', hj', hup'⟩ := mem_order h h1' h5' _ hz'
      have : q = q' := by omega
      subst this
      have u1 := hup.trans (WF.up_one hp h4)
      have u2 := hup'.trans (WF.up_one hp h4')
      have hjj : j = j' := by
        rcases Nat.lt_trichotomy j j' with hlt | e | hlt
        · obtain ⟨y, v1, v2⟩ := Up.split (i := j + 1) (j := j' - j) (by rw [show j + 1 + (j' - j) = j' + 1 by omega]; exact u2)
          have := Up.det v1 u1
          subst this
          exact absurd v2 (h.no_ring hp (by omega) (by omega))
        · exact e
        · obtain ⟨y, v1, v2⟩ := Up.split (i := j' + 1) (j := j - j') (by rw [show j' + 1 + (j - j') = j + 1 by omega]; exact u1)
          have := Up.det v1 u2
          subst this
          exact absurd v2 (h.no_ring hp (by omega) (by omega))
      subst hjj
      exact hne (by rw [Up.det hup hup'])

theorem order_le {S : List Nd} (h : WF S) {p : Nat} (hp : p < S.length) : (orderF S S.length p).length ≤ S.length := by
  have h1 := nodup_order h hp (Nat.le_refl _) (h.deep_all hp)
  have := h1.length_le_of_subset (l₂ := (List.range S.length).map (fun i : Nat => (i : Int))) (fun x hx => by
    obtain ⟨q, rfl, hq, _⟩ := mem_order h hp (h.deep_all hp) x hx
    exact List.mem_map.2 ⟨q, List.mem_range.2 hq, rfl⟩)
  simpa using this

/-- Each stands behind its parent. -/
def Par (S : List Nd) : List Int → List Int → Prop
  | _, [] => True
  | seen, x :: r => (nd S x.toNat).p ∈ seen ∧ Par S (seen ++ [x]) r

theorem Par.append {S : List Nd} : ∀ {a b seen : List Int}, Par S seen a → Par S (seen ++ a) b → Par S seen (a ++ b)
  | [], b, seen, _, hb => by simpa using hb
  | x :: a, b, seen, ⟨h1, h2⟩, hb => ⟨h1, Par.append h2 (by simpa using hb)⟩

theorem Par.flat {S : List Nd} {p : Int} (g : Int → List Int) : ∀ (ks seen : List Int), p ∈ seen → (∀ k ∈ ks, ∀ seen', p ∈ seen' → Par S seen' (g k)) → Par S seen (ks.flatMap g)
  | [], _, _, _ => trivial
  | k :: ks, seen, hp, hg => by
    rw [List.flatMap_cons]
    exact Par.append (hg k (by simp) seen hp) (Par.flat g ks _ (by simp [hp]) (fun k' hk' => hg k' (by simp [hk'])))

theorem par_order {S : List Nd} (h : WF S) : ∀ {f p : Nat} {seen : List Int}, p < S.length → Deep S f p → (nd S p).p ∈ seen → Par S seen (orderF S f p)
  | 0, p, seen, _, _, hm => ⟨by simpa using hm, trivial⟩
  | f + 1, p, seen, hp, hD, hm => by
    refine ⟨by simpa using hm, Par.flat (p := (p : Int)) _ _ _ (by simp) (fun x hx seen' hs => ?_)⟩
    obtain ⟨k, rfl, h1, h2, h3, h4, h5⟩ := h.kid_deep hp hD hx
    rw [Int.toNat_natCast]
    exact par_order h h1 h5 (by rw [h3]; exact hs)

theorem par_root {S : List Nd} (h : WF S) {f p : Nat} (hp : p < S.length) (hD : Deep S f p) : ∃ r, orderF S f p = (p : Int) :: r ∧ Par S [(p : Int)] r := by
  cases f with
  | zero => exact ⟨[], rfl, trivial⟩
  | succ f =>
    refine ⟨_, rfl, Par.flat (p := (p : Int)) _ _ _ (by simp) (fun x hx seen' hs => ?_)⟩
    obtain ⟨k, rfl, h1, h2, h3, h4, h5⟩ := h.kid_deep hp hD hx
    rw [Int.toNat_natCast]
    exact par_order h h1 h5 (by rw [h3]; exact hs)

theorem Par.get {S : List Nd} : ∀ {r seen : List Int} {i : Nat}, Par S seen r → i < r.length → (nd S (r.getD i 0).toNat).p ∈ seen ++ r.take i
  | x :: r, seen, 0, ⟨h1, _⟩, _ => by simpa using h1
  | x :: r, seen, i + 1, ⟨_, h2⟩, hi => by
    have := Par.get h2 (i := i) (by simpa using hi)
    simpa using this

theorem kid_in {S : List Nd} (h : WF S) : ∀ {f p : Nat}, p < S.length → Deep S f p → ∀ y ∈ orderF S f p, ∀ k ∈ (nd S y.toNat).ks, k ∈ orderF S f p
  | 0, p, _, hD, y, hy, k, hk => by
    have : y = (p : Int) := by simpa [orderF] using hy
    subst this
    rw [Int.toNat_natCast, show (nd S p).ks = [] from hD] at hk
    cases hk
  | f + 1, p, hp, hD, y, hy, k, hk => by
    simp only [orderF, List.mem_cons, List.mem_flatMap] at hy ⊢
    right
    rcases hy with rfl | ⟨x, hx, hy⟩
    · rw [Int.toNat_natCast] at hk
      obtain ⟨k', rfl, h1, h2, h3, h4, h5⟩ := h.kid_deep hp hD hk
      refine ⟨_, hk, ?_⟩
      rw [Int.toNat_natCast]
      cases f <;> simp [orderF]
    · obtain ⟨k', rfl, h1, h2, h3, h4, h5⟩ := h.kid_deep hp hD hx
      rw [Int.toNat_natCast] at hy
      refine ⟨_, hx, ?_⟩
      rw [Int.toNat_natCast]
      exact kid_in h h1 h5 y hy k hk

def orderS (S : List Nd) (p : Nat) : List Int := orderF S S.length p
end Go.Proofs.Ytjlapfgghljidab

namespace Go.Proofs.Ytjlapfgghljidab
open Go.RowKit

def SK : Nat → List Nd
  | 0 => List.replicate 6 unusedNd
  | k + 1 => (SK k).set k (madeNd (nd (SK k) k) k)

def S4 : List Nd := enterS (SK 3) 0 1 0
def S5 : List Nd := enterS S4 0 2 0

theorem sk_len : ∀ k, (SK k).length = 6
  | 0 => rfl
  | k + 1 => by simp only [SK, List.length_set]; exact sk_len k

theorem sk_facts : ∀ k, k < 3 → (freeB (nd (SK k) k) = true ∧ (nd (SK k) k).n = 0 ∧ (∀ i, i < k → freeB (nd (SK k) i) = false) ∧ (∀ i, i < 6 → (nd (SK k) i).ks.length ≤ 1000) ∧ checkE (SK k) = 0) := by
  intro k hk
  match k, hk with
  | 0, _ => decide
  | 1, _ => decide
  | 2, _ => decide

theorem sk3_check : tcheckE (SK 3) [(((0 : Nat) : Int), 1), (((1 : Nat) : Int), 1)] = 0 := by decide
theorem s4_check : tcheckE S4 [(((0 : Nat) : Int), 1), (((2 : Nat) : Int), 1), (((1 : Nat) : Int), 1)] = 0 := by decide
theorem s5_check : tcheckE S5 [(((0 : Nat) : Int), 1)] = 0 := by decide
theorem s5_check2 : tcheckE S5 [(((1 : Nat) : Int), 1), (((0 : Nat) : Int), 1)] = 0 := by decide
theorem s5_order : orderF S5 6 0 = [0, 2, 1] := by decide
theorem s3_fit : fitsB (SK 3) 1 0 = true := by decide
theorem s4_fit : fitsB S4 2 0 = true := by decide
theorem s5_fit : fitsB S5 0 1 = false := by decide
theorem s3_p : (nd (SK 3) 1).p = -1 := by decide
theorem s4_p : (nd S4 2).p = -1 := by decide
theorem s4_q : (nd S4 1).p = ((0 : Nat) : Int) := by decide
theorem s4_at : idx (nd S4 0).ks ((1 : Nat) : Int) = ((0 : Nat) : Int) := by decide
theorem s3_at : (nd (SK 3) 0).ks.length = 0 := by decide
theorem s4_len : S4.length = 6 := by decide
theorem s5_len : S5.length = 6 := by decide
theorem sk3_ks : ∀ i, i < (SK 3).length → (nd (SK 3) i).ks.length ≤ 1000 := by decide
theorem s4_ks : ∀ i, i < S4.length → (nd S4 i).ks.length ≤ 1000 := by decide
theorem s5_ks : ∀ i, i < S5.length → (nd S5 i).ks.length ≤ 1000 := by decide
end Go.Proofs.Ytjlapfgghljidab

namespace Go.Proofs.Ytjlapfgghljidab
open Go.RowKit

/-- What the law asks of the order, without the program. -/
structure OrderFacts (S : List Nd) (k : Nat) (l : List Int) : Prop where
  pos : 0 < l.length
  small : l.length ≤ 24
  head : l.getD 0 0 = k
  each : ∀ i, i < l.length → ∃ q : Nat, l.getD i 0 = q ∧ q < S.length ∧ (nd S q).u = true ∧ (q : Int) ∉ l.take i ∧ (0 < i → (nd S q).p ∈ l.take i)
  closed : ∀ q : Nat, q < S.length → 0 ≤ (nd S q).p → q ≠ k → decide ((nd S q).p ∈ l) = decide ((q : Int) ∈ l)

theorem hands_single (S : List Nd) (p u : Int) : handsE S [(p, u)] = holdsE S p u := by
  simp only [handsE]
  by_cases h : holdsE S p u = 0
  · rw [if_pos h, h]
  · rw [if_neg h]

theorem holds_zero {S : List Nd} {p u : Int} (h : holdsE S p u = 0) : ∃ k : Nat, p = k ∧ k < S.length ∧ (nd S k).u = true ∧ (nd S k).n = u := by
  unfold holdsE at h
  by_cases hp : isPl S.length p = true
  · rw [if_pos hp] at h
    have hp' : 0 ≤ p ∧ p ≤ (S.length : Int) - 1 := of_decide_eq_true hp
    obtain ⟨k, rfl⟩ : ∃ k : Nat, p = (k : Int) := ⟨p.toNat, by omega⟩
    rw [Int.toNat_natCast] at h
    refine ⟨k, rfl, by omega, ?_⟩
    unfold holdX at h
    split at h
    · split at h
      · split at h
        · exact ⟨by assumption, by assumption⟩
        · omega
      · omega
    · omega
  · rw [if_neg hp] at h
    omega

theorem tcheck_one {S : List Nd} {p u : Int} (h : tcheckE S [(p, u)] = 0) : WF S ∧ ∃ k : Nat, p = k ∧ k < S.length ∧ (nd S k).u = true ∧ (nd S k).n = u := by
  unfold tcheckE at h
  by_cases hc : checkE S = 0
  · rw [if_pos hc, hands_single] at h
    exact ⟨(wf_iff S).1 hc, holds_zero h⟩
  · rw [if_neg hc] at h
    exact absurd h hc

theorem orderFacts {S : List Nd} (h : WF S) {k : Nat} (hk : k < S.length) (hu : (nd S k).u = true) : OrderFacts S k (orderS S k) := by
  have hD := h.deep_all hk
  have hn := nodup_order h hk (Nat.le_refl _) hD
  have hl := order_le h hk
  obtain ⟨r, hr, hP⟩ := par_root h hk hD
  have hmem : ∀ x ∈ orderS S k, ∃ q : Nat, x = q ∧ q < S.length ∧ (nd S q).u = true := fun x hx => by
    obtain ⟨q, e, hq, hu', _⟩ := mem_order h hk hD x hx
    refine ⟨q, e, hq, ?_⟩
    rcases hu' with rfl | hu'
    · exact hu
    · exact hu'
  have hpar : ∀ i, i < (orderS S k).length → 0 < i → (nd S ((orderS S k).getD i 0).toNat).p ∈ (orderS S k).take i := fun i hi h0 => by
    unfold orderS at hi ⊢
    rw [hr] at hi ⊢
    obtain ⟨i, rfl⟩ : ∃ j, i = j + 1 := ⟨i - 1, by omega⟩
    have := hP.get (i := i) (by simpa using hi)
    simpa using this
  refine ⟨by unfold orderS; rw [hr]; simp, by unfold orderS; have := h.small; omega, by unfold orderS; rw [hr]; simp, fun i hi => ?_, fun q hq hp hne => ?_⟩
  · obtain ⟨q, e, hq, hu'⟩ := hmem ((orderS S k).getD i 0) (by rw [getD_elem _ 0 hi]; exact List.getElem_mem hi)
    refine ⟨q, e, hq, hu', fun hm => ?_, fun h0 => ?_⟩
    · obtain ⟨j, hj, ej⟩ := List.getElem_of_mem hm
      rw [List.length_take] at hj
      rw [List.getElem_take] at ej
      rw [getD_elem _ 0 hi] at e
      have hjl : j < (orderS S k).length := by omega
      have := (List.getElem?_inj (i := j) (j := i) hjl hn).1 (by show (orderS S k)[j]? = (orderS S k)[i]?; rw [List.getElem?_eq_getElem (by omega), List.getElem?_eq_getElem hi]; exact congrArg some (ej.trans e.symm))
      omega
    · have := hpar i hi h0
      rwa [e, Int.toNat_natCast] at this
  · obtain ⟨y, hy⟩ : ∃ y : Nat, (nd S q).p = (y : Int) := ⟨(nd S q).p.toNat, by omega⟩
    rw [hy]
    by_cases hm : (y : Int) ∈ orderS S k
    · have := kid_in h hk hD (y : Int) hm (q : Int) (by rw [Int.toNat_natCast]; exact (h.in_kids hq hy).2)
      rw [decide_eq_true hm, decide_eq_true (show (q : Int) ∈ orderS S k from this)]
    · have : (q : Int) ∉ orderS S k := fun hq' => by
        obtain ⟨i, hi, ei⟩ := List.getElem_of_mem hq'
        have h0 : 0 < i := by
          rcases Nat.eq_zero_or_pos i with rfl | h0
          · exfalso
            have : (orderS S k).getD 0 0 = (k : Int) := by unfold orderS; rw [hr]; simp
            rw [getD_elem _ 0 hi, ei] at this
            omega
          · exact h0
        have := hpar i hi h0
        rw [getD_elem _ 0 hi, ei, Int.toNat_natCast, hy] at this
        exact hm (List.mem_of_mem_take this)
      rw [decide_eq_false hm, decide_eq_false this]

end Go.Proofs.Ytjlapfgghljidab
