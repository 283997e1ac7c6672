/-
  Queries, without the program: which nodes a query is so of, as the program goes (from the last test to the first, with all nodes that what is left may be so of); with the last test far instead of near it is so of no fewer.
-/
import Derived.Test.YtgjfmepbphfjoaaGreatUXaWf
namespace Go.Proofs.YtgjfmepbphfjoaaGreat
open Go.RowKit

/-- A test of a query. -/
structure Tst where
  t : Int
  m : Int
  near : Bool

def testB (T M : Int) (x : Nd) : Bool := (decide (T = -1000001) || decide (T = x.t)) && (decide (M = -1000001) || decide (M = x.m))

def aboveStep (near : Bool) : (Nat → Bool) × List Int → Int → ((Nat → Bool) × List Int) × Bool := fun st x =>
  if st.1 x.toNat then (st, false) else ((fun j => if j = x.toNat then true else st.1 j, st.2 ++ [x]), !near)

theorem aboveStep_seen {near : Bool} {st : (Nat → Bool) × List Int} {y : Nat} (h : st.1 y = true) : aboveStep near st (y : Int) = (st, false) := by
  unfold aboveStep
  rw [Int.toNat_natCast, if_pos h]

theorem aboveStep_new {near : Bool} {st : (Nat → Bool) × List Int} {y : Nat} (h : st.1 y = false) : aboveStep near st (y : Int) = ((fun j => if j = y then true else st.1 j, st.2 ++ [(y : Int)]), !near) := by
  unfold aboveStep
  rw [Int.toNat_natCast, if_neg (by rw [h]; exact Bool.false_ne_true)]

/-- What is seen and found, gone up from one node. -/
def climbA (S : List Nd) (near : Bool) (st : (Nat → Bool) × List Int) (place : Int) : (Nat → Bool) × List Int :=
  if isPl S.length place then climbF S Nd.p (aboveStep near) S.length (nd S place.toNat).p st else st

def aboveSt (S : List Nd) (near : Bool) (places : List Int) : (Nat → Bool) × List Int := places.foldl (climbA S near) (fun _ => false, [])

def aboveF (S : List Nd) (near : Bool) (places : List Int) : List Int := (aboveSt S near places).2

theorem aboveSt_take (S : List Nd) (near : Bool) (places : List Int) (k : Nat) (h : k < places.length) : aboveSt S near (places.take (k + 1)) = climbA S near (aboveSt S near (places.take k)) (places.getD k 0) := by
  unfold aboveSt
  rw [List.take_add_one, List.foldl_append, List.getElem?_eq_getElem h, getD_elem places 0 h]
  rfl

/-- Those of some nodes that a test is so of. -/
def siftF (S : List Nd) (te : Tst) (ps : List Int) : List Int := flt (fun x => !testB te.t te.m (nd S x.toNat)) ps

/-- From the last test to the first (the tests turned round). -/
def soGo (S : List Nd) : List Tst → List Int → List Int
  | [], ps => ps
  | [te], ps => siftF S te ps
  | te :: te' :: r, ps => soGo S (te' :: r) (aboveF S te.near (siftF S te ps))

def isSoF (S : List Nd) (place : Int) (q : List Tst) : Bool := decide (0 < (soGo S q.reverse [place]).length)

/-- By Parents, in so many steps. -/
def PUp (S : List Nd) : Nat → Nat → Nat → Prop
  | 0, x, p => x = p
  | j + 1, x, p => ∃ y : Nat, y < S.length ∧ (nd S x).p = y ∧ PUp S j y p

theorem PUp.lt {S : List Nd} : ∀ {j x y : Nat}, x < S.length → PUp S j x y → y < S.length
  | 0, _, _, hx, h => by cases h; exact hx
  | _ + 1, _, _, _, ⟨_, h1, _, h3⟩ => PUp.lt h1 h3

theorem PUp.up {S : List Nd} (h : WF S) : ∀ {j x y : Nat}, x < S.length → PUp S j x y → Up S j x y
  | 0, _, _, _, hu => hu
  | j + 1, x, y, hx, ⟨z, h1, h2, h3⟩ => by
    refine ⟨z, h1, ?_, PUp.up h h1 h3⟩
    unfold rightUnder
    rw [if_pos (h.host_of_parent hx (by omega)).1]
    exact h2

structure Con (S : List Nd) (st : (Nat → Bool) × List Int) : Prop where
  mem : ∀ x ∈ st.2, ∃ k : Nat, x = k ∧ k < S.length ∧ st.1 k = true
  all : ∀ k, st.1 k = true → k < S.length ∧ (k : Int) ∈ st.2

theorem Con.iff {S : List Nd} {st : (Nat → Bool) × List Int} (h : Con S st) (k : Nat) : (k : Int) ∈ st.2 ↔ st.1 k = true := by
  constructor
  · intro hm
    obtain ⟨k', e, _, hs⟩ := h.mem _ hm
    have : k' = k := by omega
    rw [← this]; exact hs
  · intro hs; exact (h.all k hs).2

theorem Con.add {S : List Nd} {st : (Nat → Bool) × List Int} (h : Con S st) {k : Nat} (hk : k < S.length) : Con S (fun j => if j = k then true else st.1 j, st.2 ++ [(k : Int)]) := by
  refine ⟨fun x hx => ?_, fun j hj => ?_⟩
  · rcases List.mem_append.1 hx with hx | hx
    · obtain ⟨i, e, h1, h2⟩ := h.mem x hx
      refine ⟨i, e, h1, ?_⟩
      dsimp only
      split
      · rfl
      · exact h2
    · exact ⟨k, by simpa using hx, hk, if_pos rfl⟩
  · dsimp only at hj
    split at hj
    · rename_i e
      subst e
      exact ⟨hk, by simp⟩
    · obtain ⟨h1, h2⟩ := h.all j hj
      exact ⟨h1, List.mem_append.2 (Or.inl h2)⟩

/-- All that is seen has its Parent seen, but for one whose Parent is y. -/
def ClU (S : List Nd) (st : (Nat → Bool) × List Int) (y : Int) : Prop := ∀ a, st.1 a = true → ∀ b : Nat, (nd S a).p = b → b < S.length → st.1 b = true ∨ (b : Int) = y

theorem ClU.up {S : List Nd} {st : (Nat → Bool) × List Int} (h : ∀ a, st.1 a = true → ∀ b : Nat, (nd S a).p = b → b < S.length → st.1 b = true) : ∀ {j x z : Nat}, st.1 x = true → PUp S j x z → st.1 z = true
  | 0, _, _, hx, hu => by cases hu; exact hx
  | _ + 1, _, _, hx, ⟨y, h1, h2, h3⟩ => ClU.up h (h _ hx y h2 h1) h3

theorem climb_far {S : List Nd} : ∀ (f : Nat) (y : Int) (st : (Nat → Bool) × List Int), Con S st → ClU S st y → (∀ y0 : Nat, y = y0 → y0 < S.length → ∀ j z, PUp S j y0 z → j < f) →
    Con S (climbF S Nd.p (aboveStep false) f y st) ∧ (∀ a, (climbF S Nd.p (aboveStep false) f y st).1 a = true → ∀ b : Nat, (nd S a).p = b → b < S.length → (climbF S Nd.p (aboveStep false) f y st).1 b = true) ∧
    ∀ z, (climbF S Nd.p (aboveStep false) f y st).1 z = true ↔ st.1 z = true ∨ ∃ (y0 j : Nat), y = y0 ∧ y0 < S.length ∧ PUp S j y0 z
  | 0, y, st, hc, hcl, hf => by
    have hn : ∀ y0 : Nat, y = y0 → ¬ y0 < S.length := fun y0 e hy => by have := hf y0 e hy 0 y0 rfl; omega
    refine ⟨hc, fun a ha b hb hbl => ?_, fun z => ⟨Or.inl, fun h => ?_⟩⟩
    · rcases hcl a ha b hb hbl with h | h
      · exact h
      · exact absurd hbl (hn b h.symm)
    · rcases h with h | ⟨y0, j, e, hy, _⟩
      · exact h
      · exact absurd hy (hn y0 e)
  | f + 1, y, st, hc, hcl, hf => by
    simp only [climbF]
    by_cases hp : isPl S.length y = true
    · have hq : 0 ≤ y ∧ y ≤ (S.length : Int) - 1 := of_decide_eq_true hp
      obtain ⟨y0, rfl⟩ : ∃ k : Nat, y = (k : Int) := ⟨y.toNat, by omega⟩
      have hy0 : y0 < S.length := by omega
      rw [if_pos hp]
      cases hs : st.1 y0 with
      | true =>
        rw [aboveStep_seen hs]
        simp only [Bool.false_eq_true, if_false]
        have hcl' : ∀ a, st.1 a = true → ∀ b : Nat, (nd S a).p = b → b < S.length → st.1 b = true := fun a ha b hb hbl => by
          rcases hcl a ha b hb hbl with h | h
          · exact h
          · have : b = y0 := by omega
            rw [this]; exact hs
        refine ⟨hc, hcl', fun z => ⟨Or.inl, fun h => ?_⟩⟩
        rcases h with h | ⟨y1, j, e, _, hu⟩
        · exact h
        · have : y1 = y0 := by omega
          subst this
          exact ClU.up hcl' hs hu
      | false =>
        rw [aboveStep_new hs]
        simp only [Bool.not_false, if_true, Int.toNat_natCast]
        obtain ⟨g1, g2, g3⟩ := climb_far f (nd S y0).p (fun j => if j = y0 then true else st.1 j, st.2 ++ [(y0 : Int)]) (hc.add hy0) (fun a ha b hb hbl => by
          dsimp only at ha ⊢
          by_cases e : a = y0
          · subst e
            exact Or.inr hb.symm
          · rw [if_neg e] at ha
            rcases hcl a ha b hb hbl with h | h
            · left
              split
              · rfl
              · exact h
            · left
              rw [if_pos (by omega)]) (fun y1 e hy1 j z hu => by
          have := hf y0 rfl hy0 (j + 1) z ⟨y1, hy1, e, hu⟩
          omega)
        refine ⟨g1, g2, fun z => ?_⟩
        rw [g3 z]
        dsimp only
        constructor
        · rintro (h | ⟨y1, j, e, hy1, hu⟩)
          · by_cases ez : z = y0
            · exact Or.inr ⟨y0, 0, rfl, hy0, ez.symm⟩
            · rw [if_neg ez] at h
              exact Or.inl h
          · exact Or.inr ⟨y0, j + 1, rfl, hy0, ⟨y1, hy1, e, hu⟩⟩
        · rintro (h | ⟨y1, j, e, _, hu⟩)
          · left
            split
            · rfl
            · exact h
          · have : y1 = y0 := by omega
            subst this
            cases j with
            | zero => left; rw [if_pos hu.symm]
            | succ j =>
              obtain ⟨y2, h1, h2, h3⟩ := hu
              exact Or.inr ⟨y2, j, h2, h1, h3⟩
    · rw [if_neg hp]
      have hn : ∀ y0 : Nat, y = y0 → ¬ y0 < S.length := fun y0 e hy => hp (decide_eq_true ⟨by omega, by omega⟩)
      refine ⟨hc, fun a ha b hb hbl => ?_, fun z => ⟨Or.inl, fun h => ?_⟩⟩
      · rcases hcl a ha b hb hbl with h | h
        · exact h
        · exact absurd hbl (hn b h.symm)
      · rcases h with h | ⟨y0, j, e, hy, _⟩
        · exact h
        · exact absurd hy (hn y0 e)

theorem climb_near {S : List Nd} {f : Nat} (hf : 0 < f) (y : Int) (st : (Nat → Bool) × List Int) (hc : Con S st) :
    Con S (climbF S Nd.p (aboveStep true) f y st) ∧ ∀ z, (climbF S Nd.p (aboveStep true) f y st).1 z = true ↔ st.1 z = true ∨ (y = z ∧ z < S.length) := by
  obtain ⟨f, rfl⟩ : ∃ g, f = g + 1 := ⟨f - 1, by omega⟩
  simp only [climbF]
  by_cases hp : isPl S.length y = true
  · have hq : 0 ≤ y ∧ y ≤ (S.length : Int) - 1 := of_decide_eq_true hp
    obtain ⟨y0, rfl⟩ : ∃ k : Nat, y = (k : Int) := ⟨y.toNat, by omega⟩
    have hy0 : y0 < S.length := by omega
    rw [if_pos hp]
    cases hs : st.1 y0 with
    | true =>
      rw [aboveStep_seen hs]
      simp only [Bool.false_eq_true, if_false]
      refine ⟨hc, fun z => ⟨Or.inl, fun h => ?_⟩⟩
      rcases h with h | ⟨e, _⟩
      · exact h
      · have : z = y0 := by omega
        rw [this]; exact hs
    | false =>
      rw [aboveStep_new hs]
      simp only [Bool.not_true, Bool.false_eq_true, if_false]
      refine ⟨hc.add hy0, fun z => ?_⟩
      constructor
      · intro h
        by_cases ez : z = y0
        · exact Or.inr ⟨by rw [ez], by omega⟩
        · rw [if_neg ez] at h; exact Or.inl h
      · rintro (h | ⟨e, _⟩)
        · split
          · rfl
          · exact h
        · rw [if_pos (by omega)]
  · rw [if_neg hp]
    refine ⟨hc, fun z => ⟨Or.inl, fun h => ?_⟩⟩
    rcases h with h | ⟨e, hz⟩
    · exact h
    · exact absurd (decide_eq_true ⟨by omega, by omega⟩) hp

/-- x stands above k: right above (near), or in any number of steps, by Parents. -/
def Abv (S : List Nd) (near : Bool) (k x : Nat) : Prop := if near then (nd S k).p = x ∧ x < S.length else ∃ (y0 j : Nat), (nd S k).p = y0 ∧ y0 < S.length ∧ PUp S j y0 x

theorem Abv.far {S : List Nd} {near : Bool} {k x : Nat} (h : Abv S near k x) : Abv S false k x := by
  cases near with
  | false => exact h
  | true =>
    obtain ⟨h1, h2⟩ : (nd S k).p = x ∧ x < S.length := h
    exact (show ∃ (y0 j : Nat), _ from ⟨x, 0, h1, h2, rfl⟩)

theorem aboveSt_mem {S : List Nd} (h : WF S) (near : Bool) : ∀ (ps : List Int) (st : (Nat → Bool) × List Int), (∀ x ∈ ps, ∃ k : Nat, x = k ∧ k < S.length) → Con S st → (near = false → ∀ a, st.1 a = true → ∀ b : Nat, (nd S a).p = b → b < S.length → st.1 b = true) →
    Con S (ps.foldl (climbA S near) st) ∧ ∀ z, (ps.foldl (climbA S near) st).1 z = true ↔ st.1 z = true ∨ ∃ k : Nat, (k : Int) ∈ ps ∧ Abv S near k z
  | [], st, _, hc, _ => ⟨hc, fun z => ⟨Or.inl, fun h => by
      rcases h with h | ⟨k, hk, _⟩
      · exact h
      · cases hk⟩⟩
  | x :: ps, st, hps, hc, hcl => by
    obtain ⟨k, rfl, hk⟩ := hps x (by simp)
    have hpl : isPl S.length (k : Int) = true := decide_eq_true ⟨by omega, by omega⟩
    simp only [List.foldl_cons]
    have e : climbA S near st (k : Int) = climbF S Nd.p (aboveStep near) S.length (nd S k).p st := by
      unfold climbA
      rw [if_pos hpl, Int.toNat_natCast]
    rw [e]
    cases near with
    | true =>
      obtain ⟨g1, g2⟩ := climb_near (f := S.length) (by omega) (nd S k).p st hc
      obtain ⟨i1, i2⟩ := aboveSt_mem h true ps _ (fun x hx => hps x (by simp [hx])) g1 (fun e => by cases e)
      refine ⟨i1, fun z => ?_⟩
      rw [i2 z, g2 z]
      constructor
      · rintro ((h | h) | ⟨k', hk', h⟩)
        · exact Or.inl h
        · exact Or.inr ⟨k, by simp, h⟩
        · exact Or.inr ⟨k', by simp [hk'], h⟩
      · rintro (h | ⟨k', hk', h⟩)
        · exact Or.inl (Or.inl h)
        · rcases List.mem_cons.1 hk' with e | hk'
          · have : k' = k := by omega
            subst this
            exact Or.inl (Or.inr h)
          · exact Or.inr ⟨k', hk', h⟩
    | false =>
      obtain ⟨g1, g2, g3⟩ := climb_far S.length (nd S k).p st hc (fun a ha b hb hbl => Or.inl (hcl rfl a ha b hb hbl)) (fun y0 e hy0 j z hu => by
        have := h.up_short hy0 (hu.up h hy0)
        omega)
      obtain ⟨i1, i2⟩ := aboveSt_mem h false ps _ (fun x hx => hps x (by simp [hx])) g1 (fun _ => g2)
      refine ⟨i1, fun z => ?_⟩
      rw [i2 z, g3 z]
      constructor
      · rintro ((h | ⟨y0, j, e, hy, hu⟩) | ⟨k', hk', h⟩)
        · exact Or.inl h
        · exact Or.inr ⟨k, by simp, (show ∃ (y0 j : Nat), _ from ⟨y0, j, e, hy, hu⟩)⟩
        · exact Or.inr ⟨k', by simp [hk'], h⟩
      · rintro (h | ⟨k', hk', h⟩)
        · exact Or.inl (Or.inl h)
        · rcases List.mem_cons.1 hk' with e | hk'
          · have : k' = k := by omega
            subst this
            obtain ⟨y0, j, e, hy, hu⟩ : ∃ (y0 j : Nat), (nd S k').p = y0 ∧ y0 < S.length ∧ PUp S j y0 z := h
            exact Or.inl (Or.inr ⟨y0, j, e, hy, hu⟩)
          · exact Or.inr ⟨k', hk', h⟩

def PlacesU (S : List Nd) (ps : List Int) : Prop := ∀ x ∈ ps, ∃ k : Nat, x = k ∧ k < S.length

theorem mem_above {S : List Nd} (h : WF S) (near : Bool) {ps : List Int} (hps : PlacesU S ps) : PlacesU S (aboveF S near ps) ∧ ∀ z : Nat, (z : Int) ∈ aboveF S near ps ↔ ∃ k : Nat, (k : Int) ∈ ps ∧ Abv S near k z := by
  obtain ⟨h1, h2⟩ := aboveSt_mem h near ps (fun _ => false, []) hps ⟨fun x hx => (by cases hx), fun k hk => (by cases hk)⟩ (fun _ a ha => by cases ha)
  refine ⟨fun x hx => ?_, fun z => ?_⟩
  · obtain ⟨k, e, hk, _⟩ := h1.mem x hx
    exact ⟨k, e, hk⟩
  · rw [show aboveF S near ps = (ps.foldl (climbA S near) (fun _ => false, [])).2 from rfl, h1.iff z, h2 z]
    constructor
    · rintro (h | h)
      · cases h
      · exact h
    · exact Or.inr

theorem mem_sift {S : List Nd} {te : Tst} {ps : List Int} {x : Int} : x ∈ siftF S te ps ↔ x ∈ ps ∧ testB te.t te.m (nd S x.toNat) = true := by
  unfold siftF
  rw [mem_flt]
  simp

theorem PlacesU.sift {S : List Nd} {te : Tst} {ps : List Int} (h : PlacesU S ps) : PlacesU S (siftF S te ps) := fun x hx => h x (mem_sift.1 hx).1

theorem soGo_mono {S : List Nd} (h : WF S) : ∀ (l : List Tst) (ps qs : List Int), PlacesU S ps → PlacesU S qs → (∀ x ∈ ps, x ∈ qs) → ∀ x ∈ soGo S l ps, x ∈ soGo S l qs
  | [], ps, qs, _, _, hs, x, hx => hs x hx
  | [te], ps, qs, _, _, hs, x, hx => by
    have hx' : x ∈ siftF S te ps := hx
    obtain ⟨h1, h2⟩ := mem_sift.1 hx'
    exact mem_sift.2 ⟨hs x h1, h2⟩
  | te :: te' :: r, ps, qs, hp, hq, hs, x, hx => by
    obtain ⟨a1, a2⟩ := mem_above h te.near (hp.sift (te := te))
    obtain ⟨b1, b2⟩ := mem_above h te.near (hq.sift (te := te))
    refine soGo_mono h (te' :: r) _ _ a1 b1 (fun y hy => ?_) x hx
    obtain ⟨k, rfl, _⟩ := a1 y hy
    obtain ⟨k', hk', ha⟩ := (a2 k).1 hy
    obtain ⟨c1, c2⟩ := mem_sift.1 hk'
    exact (b2 k).2 ⟨k', mem_sift.2 ⟨hs _ c1, c2⟩, ha⟩

theorem soGo_nil {S : List Nd} : ∀ l : List Tst, soGo S l [] = []
  | [] => rfl
  | [_] => rfl
  | _ :: te' :: r => soGo_nil (te' :: r)

/-- The last test is so of the node. -/
theorem so_last {S : List Nd} {p : Int} {q : List Tst} {t : Tst} (h : isSoF S p (q ++ [t]) = true) : testB t.t t.m (nd S p.toNat) = true := by
  unfold isSoF at h
  rw [List.reverse_append] at h
  cases hb : testB t.t t.m (nd S p.toNat) with
  | true => rfl
  | false =>
    have he : siftF S t [p] = [] := by
      unfold siftF flt
      simp [hb]
    simp only [List.reverse_cons, List.reverse_nil, List.nil_append, List.singleton_append] at h
    cases hq : q.reverse with
    | nil => rw [hq] at h; simp [soGo, he] at h
    | cons te r =>
      rw [hq] at h
      simp only [soGo, he] at h
      have : aboveF S t.near [] = [] := rfl
      rw [this, soGo_nil] at h
      simp at h

theorem so_one {S : List Nd} {p : Int} {t : Tst} : isSoF S p [t] = testB t.t t.m (nd S p.toNat) := by
  unfold isSoF
  simp only [List.reverse_cons, List.reverse_nil, List.nil_append, soGo]
  unfold siftF flt
  cases hb : testB t.t t.m (nd S p.toNat) <;> simp [hb]

/-- Far instead of near: of no fewer. -/
theorem so_far {S : List Nd} (h : WF S) {p : Nat} (hp : p < S.length) {q : List Tst} {t : Tst} (hs : isSoF S p (q ++ [t]) = true) : isSoF S p (q ++ [⟨t.t, t.m, false⟩]) = true := by
  unfold isSoF at *
  rw [List.reverse_append] at *
  simp only [List.reverse_cons, List.reverse_nil, List.nil_append, List.singleton_append] at *
  cases hq : q.reverse with
  | nil =>
    rw [hq] at hs
    exact hs
  | cons te r =>
    rw [hq] at hs
    simp only [soGo] at *
    have hpl : PlacesU S [(p : Int)] := fun x hx => ⟨p, by simpa using hx, hp⟩
    obtain ⟨a1, a2⟩ := mem_above h t.near (hpl.sift (te := t))
    obtain ⟨b1, b2⟩ := mem_above h false (hpl.sift (te := ⟨t.t, t.m, false⟩))
    have hsub := soGo_mono h (te :: r) _ _ a1 b1 (fun y hy => by
      obtain ⟨k, rfl, _⟩ := a1 y hy
      obtain ⟨k', hk', ha⟩ := (a2 k).1 hy
      exact (b2 k).2 ⟨k', mem_sift.2 (mem_sift.1 hk'), ha.far⟩)
    have h0 := of_decide_eq_true hs
    obtain ⟨x, hx⟩ := List.exists_mem_of_length_pos h0
    exact decide_eq_true (List.length_pos_of_mem (hsub x hx))
end Go.Proofs.YtgjfmepbphfjoaaGreat
