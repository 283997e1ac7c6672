/-
  Realms, without the program: what an act does.
-/
import Derived.Test.YtgjfmepbphfjoaaGreatUXdUe
import Derived.Test.YtgjfmepbphfjoaaGreatUZf
import Derived.Test.YtgjfmepbphfjoaaGreatUVg
import Derived.Test.YtgjfmepbphfjoaaGreatULgLh
import Derived.Test.YtgjfmepbphfjoaaGreatUCb
namespace Go.Proofs.YtgjfmepbphfjoaaGreat
open Go.RowKit
set_option linter.unusedVariables false

/-- A realm: the nodes of its store, its hands, the cells of what came, what it was told. -/
structure Rl where
  s : List Nd
  hs : List (Int × Int)
  i : List Cl
  t : List Int
def zeroRl : Rl := ⟨[], [], [], []⟩
structure Ac where
  k : Int
  a : Int
  b : Int
  c : Int
  n : Int
/-- What is answered: the error, the realm, what is told. -/
structure Rs where
  e : Int
  r : Rl
  o : Int

theorem held_at {S : List Nd} {p u : Int} (h : findE S p u = 0) : WF S ∧ ∃ k : Nat, p = k ∧ k < S.length ∧ (nd S k).u = true ∧ (nd S k).n = u :=
  ⟨(wf_iff S).1 (find_parts h).1, holds_zero (find_parts h).2⟩
theorem tchk_wf {S : List Nd} {hs : List (Int × Int)} (h : tcheckE S hs = 0) : WF S ∧ ∀ x ∈ hs, ∃ k : Nat, x.1 = k ∧ k < S.length ∧ (nd S k).u = true ∧ (nd S k).n = x.2 := by
  unfold tcheckE at h
  split at h
  · rename_i hw
    refine ⟨(wf_iff S).1 hw, ?_⟩
    induction hs with
    | nil => intro x hx; cases hx
    | cons y r ih =>
      unfold handsE at h
      split at h
      · rename_i h0
        intro x hx
        rcases List.mem_cons.1 hx with rfl | hx
        · exact holds_zero h0
        · exact ih h x hx
      · exact absurd h (by assumption)
  · exact absurd h (by assumption)

/-- The first place that is free. -/
def ffree (S : List Nd) : Nat := S.findIdx freeB
theorem ffree_eq {S : List Nd} {k : Nat} (hk : k < S.length) (h1 : freeB (nd S k) = true) (h2 : ∀ i, i < k → freeB (nd S i) = false) : ffree S = k := by
  unfold ffree
  rw [List.findIdx_eq hk]
  refine ⟨by rw [← nd_elem hk]; exact h1, fun j hj => ?_⟩
  have := h2 j hj
  rw [nd_elem (by omega)] at this
  exact this
theorem ffree_at {S : List Nd} (h : S.any freeB = true) : ffree S < S.length ∧ freeB (nd S (ffree S)) = true ∧ ∀ i, i < ffree S → freeB (nd S i) = false := by
  obtain ⟨k, hk, h1, h2⟩ := first_free h
  rw [ffree_eq hk h1 h2]
  exact ⟨hk, h1, h2⟩
def mkS (S : List Nd) (t : Int) : List Nd := S.set (ffree S) (madeNd (nd S (ffree S)) t)
def mkH (S : List Nd) : Int × Int := ((ffree S : Int), (nd S (ffree S)).n + 1)
theorem make_at {S : List Nd} {t : Int} (h : makeE S t = 0) : WF S ∧ (0 ≤ t ∧ t ≤ 99) ∧ ffree S < S.length ∧ freeB (nd S (ffree S)) = true ∧ ∀ i, i < ffree S → freeB (nd S i) = false := by
  unfold makeE at h
  by_cases hc : checkE S = 0
  · rw [if_pos hc] at h
    by_cases ht : 0 ≤ t ∧ t ≤ 99
    · rw [if_pos ht] at h
      cases hq : S.any freeB with
      | true => exact ⟨(wf_iff S).1 hc, ht, ffree_at hq⟩
      | false => rw [hq, if_neg (by simp)] at h; omega
    · rw [if_neg ht] at h; omega
  · rw [if_neg hc] at h; exact absurd h hc

instance (S : List Nd) (k : Nat) : Decidable (looseB S k) := by unfold looseB; infer_instance
def freeE (S : List Nd) (p u : Int) : Int := if findE S p u = 0 then (if looseB S p.toNat then 0 else 6) else findE S p u
def remE (S : List Nd) (p u : Int) : Int := if findE S p u = 0 then (if (nd S p.toNat).p = -1 then 6 else 0) else findE S p u
def mrkE (S : List Nd) (p u n : Int) : Int := if findE S p u = 0 then (if -1000000 ≤ n ∧ n ≤ 1000000 then 0 else 2) else findE S p u
def cntE (S : List Nd) (p u : Int) (q : List Tst) : Int := if findE S p u = 0 then qcheckE q else findE S p u
def insE (S : List Nd) (p u q v : Int) (hs : List (Int × Int)) : Int :=
  if tcheckE S ((p, u) :: (q, v) :: hs) = 0 then (if fitsB S q.toNat p.toNat = true then (match hs with | [] => 0 | h :: _ => if (nd S h.1.toNat).p = p then 0 else 6) else 6) else tcheckE S ((p, u) :: (q, v) :: hs)
def insS (S : List Nd) (p q : Int) (hs : List (Int × Int)) : List Nd :=
  match hs with
  | [] => enterS (leaveG S q.toNat) p.toNat q.toNat (nd (leaveG S q.toNat) p.toNat).ks.length
  | h :: _ => if h.1 = q then S else enterS (leaveG S q.toNat) p.toNat q.toNat (idx (nd (leaveG S q.toNat) p.toNat).ks h.1).toNat
def hosE (S : List Nd) (p u : Int) : Int := if findE S p u = 0 then (if hostB S p = true then 6 else makeE S 0) else findE S p u
def hosS (S : List Nd) (p : Int) (c : Bool) : List Nd := S.set (ffree S) (rootNd (nd S (ffree S)) p.toNat c)
def upE (S : List Nd) (p u : Int) : Int := if findE S p u = 0 then (if (nd S p.toNat).p = -1 then 6 else 0) else findE S p u
def upH (S : List Nd) (p : Int) : Int × Int := ((nd S p.toNat).p, (nd S (nd S p.toNat).p.toNat).n)
def mrkS (S : List Nd) (p n : Int) : List Nd := S.set p.toNat { nd S p.toNat with m := n }

def ans (E : Int) (R : Rl) (o : Int) : Rs := if E = 0 then ⟨0, R, o⟩ else ⟨E, zeroRl, 0⟩
def bad (E : Int) : Rs := ⟨E, zeroRl, 0⟩
theorem ans_ok {E : Int} {R : Rl} {o : Int} (h : (ans E R o).e = 0) : E = 0 ∧ ans E R o = ⟨0, R, o⟩ := by
  by_cases hE : E = 0
  · exact ⟨hE, if_pos hE⟩
  · unfold ans at h
    rw [if_neg hE] at h
    exact absurd h hE

def isH (k : Int) : Prop := 0 ≤ k ∧ k ≤ 15
instance (k : Int) : Decidable (isH k) := by unfold isH; infer_instance
def hd (R : Rl) (k : Int) : Int × Int := R.hs.getD k.toNat (0, 0)
def rcheckE (R : Rl) : Int := if checkE R.s = 0 then (if R.hs.length = 16 then (if gcheckE R.i = 0 then (if 4800 < R.t.length then 1 else 0) else gcheckE R.i) else 3) else checkE R.s
def aMake (R : Rl) (a n : Int) : Rs := ans (makeE R.s n) ⟨mkS R.s n, R.hs.set a.toNat (mkH R.s), R.i, R.t⟩ 0
def aFree (R : Rl) (h : Int × Int) : Rs := ans (freeE R.s h.1 h.2) ⟨R.s.set h.1.toNat (freedNd (nd R.s h.1.toNat)), R.hs, R.i, R.t⟩ 0
def aRemove (R : Rl) (h : Int × Int) : Rs := ans (remE R.s h.1 h.2) ⟨leaveG R.s h.1.toNat, R.hs, R.i, R.t⟩ 0
def aGet (R : Rl) (h : Int × Int) : Rs := ans (findE R.s h.1 h.2) R (nd R.s h.1.toNat).m
def aSet (R : Rl) (h : Int × Int) (n : Int) : Rs := ans (mrkE R.s h.1 h.2 n) ⟨mrkS R.s h.1 n, R.hs, R.i, R.t⟩ 0
def aTake (R : Rl) (h : Int × Int) (n : Int) : Rs := if 0 ≤ n ∧ n < R.i.length then aSet R h (cl R.i n.toNat).n else bad 4
def aCount (R : Rl) (h : Int × Int) (t m : Int) : Rs := ans (cntE R.s h.1 h.2 [⟨t, m, false⟩]) R (foundF R.s h.1.toNat [⟨t, m, false⟩]).length
def aFlat (R : Rl) (h : Int × Int) : Rs := ans (findE R.s h.1 h.2) R (flatF R.s h.1.toNat).length
def aInsert (R : Rl) (h g : Int × Int) (hs : List (Int × Int)) : Rs := ans (insE R.s h.1 h.2 g.1 g.2 hs) ⟨insS R.s h.1 g.1 hs, R.hs, R.i, R.t⟩ 0
def aHost (R : Rl) (b : Int) (h : Int × Int) (c : Bool) : Rs := ans (hosE R.s h.1 h.2) ⟨hosS R.s h.1 c, R.hs.set b.toNat (mkH R.s), R.i, R.t⟩ 0
def aUp (R : Rl) (b : Int) (h : Int × Int) : Rs := ans (upE R.s h.1 h.2) ⟨R.s, R.hs.set b.toNat (upH R.s h.1), R.i, R.t⟩ 0
/-- An act of a right realm. -/
def doG (R : Rl) (x : Ac) : Rs :=
  if isH x.a then
    if x.k = 1 then aMake R x.a x.n
    else if x.k = 2 then aFree R (hd R x.a)
    else if x.k = 4 then aRemove R (hd R x.a)
    else if x.k = 6 then aGet R (hd R x.a)
    else if x.k = 5 then aSet R (hd R x.a) x.n
    else if x.k = 11 then aTake R (hd R x.a) x.n
    else if x.k = 14 then aCount R (hd R x.a) x.b x.n
    else if x.k = 15 then aFlat R (hd R x.a)
    else if x.k = 3 ∨ x.k = 7 ∨ x.k = 8 then
      if isH x.b then
        if x.k = 7 then aHost R x.b (hd R x.a) (decide (x.n = 1))
        else if x.k = 8 then aUp R x.b (hd R x.a)
        else if x.c < 0 then aInsert R (hd R x.a) (hd R x.b) []
        else if isH x.c then aInsert R (hd R x.a) (hd R x.b) [hd R x.c] else bad 4
      else bad 4
    else bad 3
  else bad 4
def doF (R : Rl) (x : Ac) : Rs := if rcheckE R = 0 then doG R x else bad (rcheckE R)

theorem WF.mark {S : List Nd} (h : WF S) {k : Nat} {n : Int} (hk : k < S.length) (hu : (nd S k).u = true) (hn : -1000000 ≤ n ∧ n ≤ 1000000) : WF (S.set k { nd S k with m := n }) := by
  refine h.like (by simp) (fun i hi => ?_) (fun i hi => ?_) (fun i hi hiu => ?_)
  · rw [nd_set S k i _ hk]
    split
    · rename_i e
      subst e
      obtain ⟨r1, r2, r3⟩ := node_parts (h.node i hi)
      obtain ⟨m1, m2, m3⟩ := names_parts r2
      refine node_of ?_ (names_mk m1 m2 m3) ?_
      · unfold rangeB at r1 ⊢
        simp only [Bool.and_eq_true, decide_eq_true_eq] at r1 ⊢
        exact ⟨r1.1, r1.2.1, hn⟩
      · unfold formB at r3 ⊢
        dsimp only
        rw [if_pos hu] at r3 ⊢
        exact r3
    · exact h.node i hi
  · rw [nd_set S k i _ hk]
    split
    · rename_i e
      subst e
      exact ⟨rfl, rfl, rfl⟩
    · exact ⟨rfl, rfl, rfl⟩
  · rw [nd_set S k i _ hk]
    split
    · exact Or.inl hu
    · exact Or.inl hiu

def Same4 (x y : Nd) : Prop := y.u = x.u ∧ y.n = x.n ∧ y.t = x.t ∧ y.m = x.m
def Born (x y : Nd) : Prop := x.u = false ∧ y.u = true ∧ y.n = x.n + 1 ∧ y.m = x.m
def Died (x y : Nd) : Prop := x.u = true ∧ y.u = false ∧ y.n = x.n
def Marked (x y : Nd) : Prop := y.u = x.u ∧ y.n = x.n ∧ y.t = x.t
/-- All nodes but one are as they were; that is made, freed, marked, or as it was. -/
def Mild (S T : List Nd) : Prop := T.length = S.length ∧ ∃ q, ∀ i, i < S.length → Same4 (nd S i) (nd T i) ∨ (i = q ∧ (Born (nd S i) (nd T i) ∨ Died (nd S i) (nd T i)))
theorem Same4.rfl {x : Nd} : Same4 x x := ⟨Eq.refl _, Eq.refl _, Eq.refl _, Eq.refl _⟩
theorem mild_of {S T : List Nd} (hl : T.length = S.length) (h : ∀ i, i < S.length → Same4 (nd S i) (nd T i)) : Mild S T := ⟨hl, 0, fun i hi => Or.inl (h i hi)⟩
theorem mild_set {S : List Nd} {k : Nat} {y : Nd} (hk : k < S.length) (h : Born (nd S k) y ∨ Died (nd S k) y) : Mild S (S.set k y) := ⟨by simp, k, fun i hi => by
  rw [nd_set S k i _ hk]
  split
  · rename_i e
    subst e
    exact Or.inr ⟨rfl, h⟩
  · exact Or.inl Same4.rfl⟩

theorem insert_at {S : List Nd} {p u q v : Int} {hs : List (Int × Int)} (h : insE S p u q v hs = 0) : WF (insS S p q hs) ∧ Mild S (insS S p q hs) := by
  unfold insE at h
  by_cases h0 : tcheckE S ((p, u) :: (q, v) :: hs) = 0
  · rw [if_pos h0] at h
    obtain ⟨wf, hx⟩ := tchk_wf h0
    obtain ⟨pa, e1, hpa, hpu, hpn⟩ := hx (p, u) (by simp)
    obtain ⟨ch, e2, hch, hcu, hcn⟩ := hx (q, v) (by simp)
    dsimp only at e1 e2 hpn hcn
    subst e1
    subst e2
    rw [Int.toNat_natCast, Int.toNat_natCast] at h
    by_cases hf : fitsB S ch pa = true
    · rw [if_pos hf] at h
      have pt : Puts S pa ch := ⟨wf, hpa, hch, hpu, hcu, hf⟩
      have key : ∀ at', WF (enterS (leaveG S ch) pa ch at') ∧ Mild S (enterS (leaveG S ch) pa ch at') := fun at' => ⟨pt.insert at', mild_of (by rw [enterS_length, leaveG_length]) (fun i hi => by
        obtain ⟨a1, a2, a3, a4, a5, a6⟩ := leaveG_u S ch i
        obtain ⟨b1, b2, b3, b4, b5, b6⟩ := enter_u (leaveG S ch) pa ch at' i
        exact ⟨b1.trans a1, b2.trans a2, b4.trans a4, b5.trans a5⟩)⟩
      unfold insS
      rw [Int.toNat_natCast, Int.toNat_natCast]
      match hs with
      | [] => exact key _
      | hh :: r =>
        dsimp only
        split
        · exact ⟨wf, mild_of rfl (fun i hi => Same4.rfl)⟩
        · exact key _
    · rw [if_neg hf] at h; omega
  · rw [if_neg h0] at h; exact absurd h h0

/-- What an act that went well leaves as it was. -/
structure Kept (R : Rl) (x : Ac) (Q : Rl) (o : Int) : Prop where
  a : isH x.a
  wf : WF Q.s
  len : Q.s.length = R.s.length
  hlen : Q.hs.length = R.hs.length
  inn : Q.i = R.i
  tld : Q.t = R.t
  told : o ≠ 0 → x.k = 6 ∨ x.k = 14 ∨ x.k = 15
  same : x.k = 6 ∨ x.k = 14 ∨ x.k = 15 → Q = R
  node : ∃ q, ∀ i, i < R.s.length → Same4 (nd R.s i) (nd Q.s i) ∨ (i = q ∧ (Born (nd R.s i) (nd Q.s i) ∨ Died (nd R.s i) (nd Q.s i) ∨ Marked (nd R.s i) (nd Q.s i)))
  hand : ∃ q, ∀ i, i ≠ q → Q.hs.getD i (0, 0) = R.hs.getD i (0, 0)
  mark : x.k = 5 ∨ x.k = 11 → ∃ k : Nat, (hd R x.a).1 = k ∧ k < R.s.length ∧ (nd R.s k).u = true ∧ (nd R.s k).n = (hd R x.a).2 ∧ (x.k = 11 → 0 ≤ x.n ∧ x.n < R.i.length) ∧ Q.s = R.s.set k { nd R.s k with m := if x.k = 11 then (cl R.i x.n.toNat).n else x.n } ∧ Q.hs = R.hs
  mild : x.k ≠ 5 → x.k ≠ 11 → Mild R.s Q.s

theorem getD_set {α : Type} (l : List α) (k i : Nat) (v d : α) (h : i ≠ k) : (l.set k v).getD i d = l.getD i d := by
  simp only [List.getD_eq_getElem?_getD, List.getElem?_set_ne (Ne.symm h)]

theorem Kept.mildly {R : Rl} {x : Ac} {T : List Nd} (ha : isH x.a) (wf : WF T) (hm : Mild R.s T) (hk : x.k ≠ 6 ∧ x.k ≠ 14 ∧ x.k ≠ 15) (hk2 : x.k ≠ 5 ∧ x.k ≠ 11) (H : List (Int × Int)) (hl : H.length = R.hs.length) (hH : ∃ q, ∀ i, i ≠ q → H.getD i (0, 0) = R.hs.getD i (0, 0)) : Kept R x ⟨T, H, R.i, R.t⟩ 0 :=
  { a := ha, wf := wf, len := hm.1, hlen := hl, inn := rfl, tld := rfl, told := fun h => absurd rfl h, same := fun h => (by omega),
    node := by
      obtain ⟨_, q, h⟩ := hm
      exact ⟨q, fun i hi => (h i hi).imp id (fun ⟨e, hh⟩ => ⟨e, hh.elim Or.inl (fun h => Or.inr (Or.inl h))⟩)⟩
    hand := hH, mark := fun h => (by omega), mild := fun _ _ => hm }
theorem Kept.asked {R : Rl} {x : Ac} {o : Int} (ha : isH x.a) (wf : WF R.s) (hk : x.k = 6 ∨ x.k = 14 ∨ x.k = 15) : Kept R x R o :=
  { a := ha, wf := wf, len := rfl, hlen := rfl, inn := rfl, tld := rfl, told := fun _ => hk, same := fun _ => rfl,
    node := ⟨0, fun i hi => Or.inl Same4.rfl⟩, hand := ⟨0, fun i hi => rfl⟩, mark := fun h => (by omega), mild := fun _ _ => mild_of rfl (fun i hi => Same4.rfl) }
theorem Kept.marked {R : Rl} {x : Ac} {n : Int} (ha : isH x.a) (hE : mrkE R.s (hd R x.a).1 (hd R x.a).2 n = 0) (hk : x.k = 5 ∨ x.k = 11) (hn : n = if x.k = 11 then (cl R.i x.n.toNat).n else x.n) (hi : x.k = 11 → 0 ≤ x.n ∧ x.n < R.i.length) : Kept R x ⟨mrkS R.s (hd R x.a).1 n, R.hs, R.i, R.t⟩ 0 := by
  unfold mrkE at hE
  by_cases hf : findE R.s (hd R x.a).1 (hd R x.a).2 = 0
  · rw [if_pos hf] at hE
    by_cases hr : -1000000 ≤ n ∧ n ≤ 1000000
    · obtain ⟨wf, k, e, hk1, hu, hkn⟩ := held_at hf
      have e2 : mrkS R.s (hd R x.a).1 n = R.s.set k { nd R.s k with m := n } := by unfold mrkS; rw [e, Int.toNat_natCast]
      rw [e2]
      exact
        { a := ha, wf := wf.mark hk1 hu hr, len := by simp, hlen := rfl, inn := rfl, tld := rfl, told := fun h => absurd rfl h, same := fun h => (by omega),
          node := ⟨k, fun i hi => by
            show Same4 _ (nd (R.s.set k _) i) ∨ (i = k ∧ (Born _ (nd (R.s.set k _) i) ∨ Died _ (nd (R.s.set k _) i) ∨ Marked _ (nd (R.s.set k _) i)))
            rw [nd_set R.s k i _ hk1]
            split
            · rename_i e
              subst e
              exact Or.inr ⟨rfl, Or.inr (Or.inr ⟨rfl, rfl, rfl⟩)⟩
            · exact Or.inl Same4.rfl⟩
          hand := ⟨0, fun i hi => rfl⟩, mark := fun _ => ⟨k, e, hk1, hu, hkn, hi, by rw [← hn], rfl⟩, mild := fun h1 h2 => by omega }
    · rw [if_neg hr] at hE; omega
  · rw [if_neg hf] at hE; exact absurd hE hf

theorem rcheck_parts {R : Rl} (h : rcheckE R = 0) : WF R.s ∧ R.hs.length = 16 ∧ gcheckE R.i = 0 ∧ R.t.length ≤ 4800 := by
  unfold rcheckE at h
  by_cases h1 : checkE R.s = 0
  · rw [if_pos h1] at h
    by_cases h2 : R.hs.length = 16
    · rw [if_pos h2] at h
      by_cases h3 : gcheckE R.i = 0
      · rw [if_pos h3] at h
        by_cases h4 : 4800 < R.t.length
        · rw [if_pos h4] at h; omega
        · exact ⟨(wf_iff _).1 h1, h2, h3, by omega⟩
      · rw [if_neg h3] at h; exact absurd h h3
    · rw [if_neg h2] at h; omega
  · rw [if_neg h1] at h; exact absurd h h1
theorem rcheck_of {R : Rl} (h1 : WF R.s) (h2 : R.hs.length = 16) (h3 : gcheckE R.i = 0) (h4 : R.t.length ≤ 4800) : rcheckE R = 0 := by
  unfold rcheckE
  rw [if_pos ((wf_iff _).2 h1), if_pos h2, if_pos h3, if_neg (by omega)]

theorem doG_kept {R : Rl} {x : Ac} (hc : rcheckE R = 0) (h : (doG R x).e = 0) : Kept R x (doG R x).r (doG R x).o := by
  obtain ⟨wf, hhs, _, _⟩ := rcheck_parts hc
  have same : ∃ q, ∀ i, i ≠ q → R.hs.getD i (0, 0) = R.hs.getD i (0, 0) := ⟨0, fun i _ => rfl⟩
  have one : ∀ (k : Nat) v, ∃ q, ∀ i, i ≠ q → (R.hs.set k v).getD i (0, 0) = R.hs.getD i (0, 0) := fun k v => ⟨k, fun i hi => getD_set _ _ _ _ _ hi⟩
  unfold doG at h ⊢
  by_cases ha : isH x.a
  · rw [if_pos ha] at h ⊢
    by_cases k1 : x.k = 1
    · rw [if_pos k1] at h ⊢
      unfold aMake at h ⊢
      obtain ⟨hE, he⟩ := ans_ok h
      rw [he]
      obtain ⟨_, ht, hf, hfr, _⟩ := make_at hE
      have hp := free_parts hfr
      exact Kept.mildly ha (wf.make hf hfr ht.1 ht.2) (mild_set hf (Or.inl ⟨hp.1, rfl, rfl, rfl⟩)) (by omega) (by omega) _ (by simp) (one _ _)
    rw [if_neg k1] at h ⊢
    by_cases k2 : x.k = 2
    · rw [if_pos k2] at h ⊢
      unfold aFree at h ⊢
      obtain ⟨hE, he⟩ := ans_ok h
      rw [he]
      unfold freeE at hE
      by_cases hf : findE R.s (hd R x.a).1 (hd R x.a).2 = 0
      · rw [if_pos hf] at hE
        by_cases hl : looseB R.s (hd R x.a).1.toNat
        · obtain ⟨_, k, e, hk, hu, hkn⟩ := held_at hf
          rw [e, Int.toNat_natCast] at hl ⊢
          exact Kept.mildly ha (wf.free hk hl) (mild_set hk (Or.inr ⟨hu, rfl, rfl⟩)) (by omega) (by omega) _ rfl same
        · rw [if_neg hl] at hE; omega
      · rw [if_neg hf] at hE; exact absurd hE hf
    rw [if_neg k2] at h ⊢
    by_cases k4 : x.k = 4
    · rw [if_pos k4] at h ⊢
      unfold aRemove at h ⊢
      obtain ⟨hE, he⟩ := ans_ok h
      rw [he]
      unfold remE at hE
      by_cases hf : findE R.s (hd R x.a).1 (hd R x.a).2 = 0
      · obtain ⟨_, k, e, hk, hu, hkn⟩ := held_at hf
        rw [e, Int.toNat_natCast]
        exact Kept.mildly ha (wf.leaveG hk) (mild_of (leaveG_length _ _) (fun i hi => by obtain ⟨a1, a2, a3, a4, a5, a6⟩ := leaveG_u R.s k i; exact ⟨a1, a2, a4, a5⟩)) (by omega) (by omega) _ rfl same
      · rw [if_neg hf] at hE; exact absurd hE hf
    rw [if_neg k4] at h ⊢
    by_cases k6 : x.k = 6
    · rw [if_pos k6] at h ⊢
      unfold aGet at h ⊢
      rw [(ans_ok h).2]
      exact Kept.asked ha wf (by omega)
    rw [if_neg k6] at h ⊢
    by_cases k5 : x.k = 5
    · rw [if_pos k5] at h ⊢
      unfold aSet at h ⊢
      obtain ⟨hE, he⟩ := ans_ok h
      rw [he]
      exact Kept.marked ha hE (Or.inl k5) (by rw [if_neg (by omega)]) (fun h => by omega)
    rw [if_neg k5] at h ⊢
    by_cases k11 : x.k = 11
    · rw [if_pos k11] at h ⊢
      unfold aTake at h ⊢
      by_cases hn : 0 ≤ x.n ∧ x.n < R.i.length
      · rw [if_pos hn] at h ⊢
        unfold aSet at h ⊢
        obtain ⟨hE, he⟩ := ans_ok h
        rw [he]
        exact Kept.marked ha hE (Or.inr k11) (by rw [if_pos k11]) (fun _ => hn)
      · rw [if_neg hn] at h
        exact absurd h (by decide)
    rw [if_neg k11] at h ⊢
    by_cases k14 : x.k = 14
    · rw [if_pos k14] at h ⊢
      unfold aCount at h ⊢
      rw [(ans_ok h).2]
      exact Kept.asked ha wf (by omega)
    rw [if_neg k14] at h ⊢
    by_cases k15 : x.k = 15
    · rw [if_pos k15] at h ⊢
      unfold aFlat at h ⊢
      rw [(ans_ok h).2]
      exact Kept.asked ha wf (by omega)
    rw [if_neg k15] at h ⊢
    by_cases kk : x.k = 3 ∨ x.k = 7 ∨ x.k = 8
    · rw [if_pos kk] at h ⊢
      by_cases hb : isH x.b
      · rw [if_pos hb] at h ⊢
        by_cases k7 : x.k = 7
        · rw [if_pos k7] at h ⊢
          unfold aHost at h ⊢
          obtain ⟨hE, he⟩ := ans_ok h
          rw [he]
          unfold hosE at hE
          by_cases hf : findE R.s (hd R x.a).1 (hd R x.a).2 = 0
          · rw [if_pos hf] at hE
            by_cases hl : hostB R.s (hd R x.a).1 = true
            · rw [if_pos hl] at hE; omega
            · rw [if_neg hl] at hE
              obtain ⟨_, k, e, hk, hu, hkn⟩ := held_at hf
              obtain ⟨_, ht, hf, hfr, _⟩ := make_at hE
              have hp := free_parts hfr
              unfold hosS
              rw [e] at hl ⊢
              rw [Int.toNat_natCast]
              exact Kept.mildly ha (wf.attach _ hf hfr hk hu (by simpa using hl)) (mild_set hf (Or.inl ⟨hp.1, rfl, rfl, rfl⟩)) (by omega) (by omega) _ (by simp) (one _ _)
          · rw [if_neg hf] at hE; exact absurd hE hf
        rw [if_neg k7] at h ⊢
        by_cases k8 : x.k = 8
        · rw [if_pos k8] at h ⊢
          unfold aUp at h ⊢
          rw [(ans_ok h).2]
          exact Kept.mildly ha wf (mild_of rfl (fun i hi => Same4.rfl)) (by omega) (by omega) _ (by simp) (one _ _)
        rw [if_neg k8] at h ⊢
        by_cases hc0 : x.c < 0
        · rw [if_pos hc0] at h ⊢
          unfold aInsert at h ⊢
          obtain ⟨hE, he⟩ := ans_ok h
          rw [he]
          exact Kept.mildly ha (insert_at hE).1 (insert_at hE).2 (by omega) (by omega) _ rfl same
        · rw [if_neg hc0] at h ⊢
          by_cases hc1 : isH x.c
          · rw [if_pos hc1] at h ⊢
            unfold aInsert at h ⊢
            obtain ⟨hE, he⟩ := ans_ok h
            rw [he]
            exact Kept.mildly ha (insert_at hE).1 (insert_at hE).2 (by omega) (by omega) _ rfl same
          · rw [if_neg hc1] at h
            exact absurd h (by decide)
      · rw [if_neg hb] at h
        exact absurd h (by decide)
    · rw [if_neg kk] at h
      exact absurd h (by decide)
  · rw [if_neg ha] at h
    exact absurd h (by decide)
theorem do_kept {R : Rl} {x : Ac} (h : (doF R x).e = 0) : rcheckE R = 0 ∧ Kept R x (doF R x).r (doF R x).o ∧ rcheckE (doF R x).r = 0 := by
  by_cases hc : rcheckE R = 0
  · have e : doF R x = doG R x := if_pos hc
    rw [e] at h ⊢
    have k := doG_kept hc h
    obtain ⟨h1, h2, h3, h4⟩ := rcheck_parts hc
    exact ⟨hc, k, rcheck_of k.wf (k.hlen.trans h2) (by rw [k.inn]; exact h3) (by rw [k.tld]; exact h4)⟩
  · unfold doF at h
    rw [if_neg hc] at h
    exact absurd h hc
def Sane (q : Rs) : Prop := q.e ≠ 0 → q.r = zeroRl ∧ q.o = 0
theorem sane_ans (E : Int) (R : Rl) (o : Int) : Sane (ans E R o) := fun h => by
  unfold ans at h ⊢
  by_cases h0 : E = 0
  · rw [if_pos h0] at h
    exact absurd rfl h
  · rw [if_neg h0]
    exact ⟨rfl, rfl⟩
theorem sane_bad (E : Int) : Sane (bad E) := fun _ => ⟨rfl, rfl⟩
theorem sane_ite {c : Prop} [Decidable c] {a b : Rs} (ha : Sane a) (hb : Sane b) : Sane (if c then a else b) := by
  by_cases h : c
  · rw [if_pos h]; exact ha
  · rw [if_neg h]; exact hb
/-- Where there is an error nothing else is answered. -/
theorem doG_no (R : Rl) (x : Ac) : Sane (doG R x) := by
  unfold doG aMake aFree aRemove aGet aTake aSet aCount aFlat aInsert aHost aUp
  repeat' first | exact sane_ans _ _ _ | exact sane_bad _ | refine sane_ite ?_ ?_
theorem do_no (R : Rl) (x : Ac) : Sane (doF R x) := by
  unfold doF
  exact sane_ite (doG_no R x) (sane_bad _)
theorem bad_ans (E : Int) : (bad E).r = zeroRl ∧ (bad E).o = 0 ∧ (bad E).e = E := ⟨rfl, rfl, rfl⟩
end Go.Proofs.YtgjfmepbphfjoaaGreat
