/-
  WITHOUT THE PROGRAM: who is told of an event, in which order, and who is left.
-/
import Derived.Test.YtplkfacaphejgaaULoHaSe
import Derived.Test.YtplkfacaphejgaaUZa
import Derived.Deep.RegionHeld3
namespace Go.Proofs.Ytplkfacaphejgaa
open Go.RowKit

/-- A hearer at this spot. -/
def atSpot (x : Int × Bool) (h : Hr) : Bool := decide (h.pl = x.1) && (h.dn == x.2)
def hearF (L : List Hr) (x : Int × Bool) : List Hr := L.filter (atSpot x)
/-- The spots of an event: down to where the path begins, and up again. -/
def spotsF (P : List Int) : List (Int × Bool) := P.reverse.map (fun p => (p, true)) ++ P.map (fun p => (p, false))
/-- Those who are told, spot by spot, until somebody stops it. -/
def toldF (L : List Hr) : List (Int × Bool) → List Hr
  | [] => []
  | x :: t => hearF L x ++ if (hearF L x).any Hr.st then [] else toldF L t
def leftF (L : List Hr) (T : List Int) : List Hr := L.filter fun h => !(h.on && decide (h.id ∈ T))

structure Cal where
  id : Int
  pl : Int
  tg : Int
  ph : Int
  deriving DecidableEq

def phaseF (t p : Int) (down : Bool) : Int := if t = p then 2 else if down then 1 else 3
def callF (S : List Nd) (k : Nat) (x : Int × Bool) (id : Int) : Cal := ⟨id, x.1, targetF S k x.1.toNat, phaseF (targetF S k x.1.toNat) x.1 x.2⟩
def callH (S : List Nd) (k : Nat) (h : Hr) : Cal := callF S k (h.pl, h.dn) h.id

theorem hear_mem {L : List Hr} {x : Int × Bool} {h : Hr} : h ∈ hearF L x ↔ h ∈ L ∧ (h.pl, h.dn) = x := by
  unfold hearF atSpot
  rw [List.mem_filter]
  obtain ⟨p, d⟩ := x
  simp [Prod.ext_iff]

theorem told_mem {L : List Hr} {X : List (Int × Bool)} {h : Hr} (hm : h ∈ toldF L X) : h ∈ L ∧ (h.pl, h.dn) ∈ X := by
  induction X with
  | nil => simp [toldF] at hm
  | cons x t ih =>
    rw [toldF, List.mem_append] at hm
    rcases hm with hm | hm
    · obtain ⟨h1, h2⟩ := hear_mem.1 hm
      exact ⟨h1, by rw [h2]; simp⟩
    · split at hm
      · simp at hm
      · obtain ⟨h1, h2⟩ := ih hm
        exact ⟨h1, List.mem_cons_of_mem _ h2⟩

theorem told_pairwise {R : Hr → Hr → Prop} {L : List Hr} {X : List (Int × Bool)} (h1 : ∀ x ∈ X, (hearF L x).Pairwise R) (h2 : X.Pairwise fun x y => ∀ h ∈ hearF L x, ∀ h' ∈ hearF L y, R h h') : (toldF L X).Pairwise R := by
  induction X with
  | nil => simp [toldF]
  | cons x t ih =>
    rw [List.pairwise_cons] at h2
    rw [toldF, List.pairwise_append]
    refine ⟨h1 x (by simp), ?_, ?_⟩
    · split
      · simp
      · exact ih (fun y hy => h1 y (List.mem_cons_of_mem _ hy)) h2.2
    · intro h hm h' hm'
      split at hm'
      · simp at hm'
      · obtain ⟨h3, h4⟩ := told_mem hm'
        exact h2.1 _ h4 h hm h' (hear_mem.2 ⟨h3, rfl⟩)

theorem spots_nodup {P : List Int} (h : P.Nodup) : (spotsF P).Nodup := by
  unfold spotsF
  rw [List.nodup_append]
  refine ⟨?_, ?_, ?_⟩
  · rw [List.Nodup, List.pairwise_map]
    exact List.pairwise_reverse.2 (h.imp (fun hne e => hne (by simpa using e.symm)))
  · rw [List.Nodup, List.pairwise_map]
    exact h.imp (fun hne e => hne (by simpa using e))
  · intro x hx y hy e
    rw [List.mem_map] at hx hy
    obtain ⟨p, _, rfl⟩ := hx
    obtain ⟨q, _, rfl⟩ := hy
    simp at e

theorem spots_mem {P : List Int} {x : Int × Bool} (h : x ∈ spotsF P) : x.1 ∈ P := by
  unfold spotsF at h
  rw [List.mem_append, List.mem_map, List.mem_map] at h
  rcases h with ⟨p, hp, rfl⟩ | ⟨p, hp, rfl⟩
  · exact List.mem_reverse.1 hp
  · exact hp

/-- The way down is ahead of the way up. -/
theorem spots_order (P : List Int) : (spotsF P).Pairwise fun x y => x.2 = false → y.2 = false := by
  unfold spotsF
  rw [List.pairwise_append]
  refine ⟨?_, ?_, ?_⟩
  · rw [List.pairwise_map]
    exact List.Pairwise.imp (fun _ => by simp) (List.pairwise_of_forall (R := fun _ _ => True) (by simp))
  · rw [List.pairwise_map]
    exact List.Pairwise.imp (fun _ => by simp) (List.pairwise_of_forall (R := fun _ _ => True) (by simp))
  · intro x _ y hy _
    rw [List.mem_map] at hy
    obtain ⟨q, _, rfl⟩ := hy
    rfl

theorem told_order (L : List Hr) (P : List Int) : (toldF L (spotsF P)).Pairwise fun h h' => h.dn = false → h'.dn = false := by
  refine told_pairwise (fun x _ => ?_) ?_
  · refine List.Pairwise.imp_of_mem (R := fun _ _ => True) ?_ (List.pairwise_of_forall (by simp))
    intro h h' h1 h2 _ h3
    have e1 := (hear_mem.1 h1).2
    have e2 := (hear_mem.1 h2).2
    rw [← e1] at e2
    simp [Prod.ext_iff] at e2
    rw [e2.2]
    exact h3
  · refine (spots_order P).imp ?_
    intro x y hxy h h1 h' h2 h3
    have e1 := (hear_mem.1 h1).2
    have e2 := (hear_mem.1 h2).2
    subst e1
    have e3 : h'.dn = y.2 := by rw [← e2]
    rw [e3]
    exact hxy h3

theorem told_nodup {L : List Hr} {P : List Int} (hL : (L.map Hr.id).Nodup) (hP : P.Nodup) : ((toldF L (spotsF P)).map Hr.id).Nodup := by
  have hL2 : L.Pairwise fun h h' => h.id ≠ h'.id := by rw [List.Nodup, List.pairwise_map] at hL; exact hL
  have one : ∀ h ∈ L, ∀ h' ∈ L, h.id = h'.id → h = h' := by
    have := hL2
    induction L with
    | nil => intro h hm; simp at hm
    | cons a t ih =>
      rw [List.pairwise_cons] at this
      rw [List.map_cons, List.nodup_cons] at hL
      intro h hm h' hm' e
      rw [List.mem_cons] at hm hm'
      rcases hm with rfl | hm <;> rcases hm' with rfl | hm'
      · rfl
      · exact absurd e (this.1 _ hm')
      · exact absurd e.symm (this.1 _ hm)
      · exact ih hL.2 this.2 this.2 h hm h' hm' e
  rw [List.Nodup, List.pairwise_map]
  refine told_pairwise (fun x _ => ?_) ?_
  · unfold hearF
    exact hL2.filter _
  · refine (spots_nodup hP).imp ?_
    intro x y hxy h h1 h' h2 e
    obtain ⟨m1, e1⟩ := hear_mem.1 h1
    obtain ⟨m2, e2⟩ := hear_mem.1 h2
    have := one h m1 h' m2 e
    subst this
    exact hxy (e1.symm.trans e2)

theorem hcheck_nodup {N : Int} {L : List Hr} {seen : List Int} (hs : seen.Nodup) (h : hgo N seen L = 0) : (seen ++ L.map Hr.id).Nodup ∧ ∀ x ∈ L, 0 ≤ x.pl ∧ x.pl < N := by
  induction L generalizing seen with
  | nil => exact ⟨by simpa using hs, fun x hx => by simp at hx⟩
  | cons a t ih =>
    rw [hgo] at h
    split at h
    · cases h
    · rename_i hp
      split at h
      · cases h
      · rename_i hm
        have hs2 : (seen ++ [a.id]).Nodup := by
          rw [List.nodup_append]
          refine ⟨hs, by simp, ?_⟩
          intro x hx y hy e
          simp at hy
          exact hm (by rw [← hy, ← e]; exact hx)
        obtain ⟨h1, h2⟩ := ih hs2 h
        refine ⟨by simpa using h1, fun x hx => ?_⟩
        rw [List.mem_cons] at hx
        rcases hx with rfl | hx
        · omega
        · exact h2 x hx

theorem hcheck_ok {L : List Hr} {N : Int} (h : hcheckE L N = 0) : L.length ≤ 24 ∧ (L.map Hr.id).Nodup ∧ ∀ x ∈ L, 0 ≤ x.pl ∧ x.pl < N := by
  unfold hcheckE at h
  split at h
  · cases h
  · obtain ⟨h1, h2⟩ := hcheck_nodup (seen := []) (by simp) h
    exact ⟨by omega, by simpa using h1, h2⟩
end Go.Proofs.Ytplkfacaphejgaa

namespace Go.Proofs.Ytplkfacaphejgaa
open Go

section
variable {P : Program} {ops : Array Oper} {Q : Exit → Act → World → Prop} {md : Region.Mode} {S : World → Prop} {x : Nat}

def wpAnyX (P : Program) (md : Region.Mode) (ops : Array Oper) (Q : Exit → Act → World → Prop) (S : World → Prop) (x : Nat) : Nat → Array Bool → Act → World → Prop
  | 0, listed, a, w => Region.ready md ops listed = [] ∧ Q .normal a w
  | fuel + 1, listed, a, w =>
    (Region.ready md ops listed = [] → Q .normal a w) ∧
    ∀ i ∈ Region.ready md ops listed, wpOp P ops Q i (fun a' w' => (i = x ∨ S w') ∧ wpAnyX P md ops Q S x fuel (listed.setIfInBounds i true) a' w') a w

theorem wpAny_of_X : ∀ (fuel : Nat) (listed : Array Bool) (a : Act) (w : World), wpAnyX P md ops Q S x fuel listed a w → wpAny P md ops Q fuel listed a w
  | 0, _, _, _, h => h
  | fuel + 1, _, _, _, h => ⟨h.1, fun i hi => wpOp_mono (fun a' w' h' => wpAny_of_X fuel _ a' w' h'.2) (h.2 i hi)⟩

/-- Does operation x wait for operation i? -/
def waits (md : Region.Mode) (ops : Array Oper) (x i : Nat) : Bool := match ops[x]? with
  | some o => o.after.any (fun e => Region.binds md e && e.on == i)
  | none => false

theorem wpAnyX_first {i : Nat} {oi : Oper} {v : Value} (hi : ops[i]? = some oi) (hsel : ∀ (j : Nat) (o : Oper) cs b, ops[j]? = some o → o.op ≠ .select cs b) (hX : waits md ops x i = true)
    (hQ : ∀ c a w, Q (.panic c) (a.put oi.dst v) w → Q (.panic c) a w) :
    ∀ (fuel : Nat) (listed : Array Bool) (a : Act) (w : World),
      (∀ j oj, ops[j]? = some oj → j ≠ i → listed.getD j true = false → (∀ e ∈ oj.after, Region.binds md e = true → e.on ≠ i) → oi.apart ops oj = true) →
      i ∈ Region.ready md ops listed → YieldsIf P ops S oi v a → S w →
      wpAnyX P md ops Q S x fuel (listed.setIfInBounds i true) (a.put oi.dst v) w → wpAnyX P md ops Q S x (fuel + 1) listed a w := by
  intro fuel
  induction fuel with
  | zero =>
    intro listed a w _ hr hy hS H
    refine ⟨fun h => (by rw [h] at hr; cases hr), fun j hj => ?_⟩
    by_cases hji : j = i
    · subst hji; exact hy.wpOp hi hS ⟨Or.inr hS, H⟩
    · have := ready_mono hj hji
      rw [H.1] at this
      cases this
  | succ fuel ih =>
    intro listed a w hfree hr hy hS H
    refine ⟨fun h => (by rw [h] at hr; cases hr), fun j hj => ?_⟩
    by_cases hji : j = i
    · subst hji; exact hy.wpOp hi hS ⟨Or.inr hS, H⟩
    · have h1 := H.2 j (ready_mono hj hji)
      obtain ⟨hjun, oj, hoj, hall⟩ := mem_ready.1 hj
      have hnot : ∀ e ∈ oj.after, Region.binds md e = true → e.on ≠ i := fun e he hb heq => by
        have h1 := hall e he hb
        have h0 := (mem_ready.1 hr).1
        rw [heq] at h1
        rcases Nat.lt_or_ge i listed.size with h' | h'
        · simp [h'] at h0 h1; rw [h0] at h1; cases h1
        · simp [Array.getElem?_eq_none h'] at h1
      have hjx : j ≠ x := fun e => by
        subst e
        unfold waits at hX
        rw [hoj] at hX
        simp only [Array.any_eq_true, Bool.and_eq_true] at hX
        obtain ⟨k, hk, h5, h6⟩ := hX
        exact hnot _ (Array.getElem_mem hk) h5 (by simpa using h6)
      have h2 := wpOp_putIf hoj (hfree j oj hoj hji hjun hnot) (fun cs b => hsel i oi cs b hi) (fun cs b => hsel j oj cs b hoj) hQ hy h1
      have hfree' : ∀ k ok, ops[k]? = some ok → k ≠ i → (listed.setIfInBounds j true).getD k true = false →
          (∀ e ∈ ok.after, Region.binds md e = true → e.on ≠ i) → oi.apart ops ok = true := fun k ok hk hki hun hno => by
        refine hfree k ok hk hki ?_ hno
        by_cases hjk : j = k
        · subst hjk; exact hjun
        · rw [getD_set_ne true hjk] at hun; exact hun
      refine wpOp_mono (fun a' w' h3 => ?_) h2
      have hS' : S w' := h3.2.1.resolve_left hjx
      refine ⟨Or.inr hS', ih (listed.setIfInBounds j true) a' w' hfree' (ready_mono hr (Ne.symm hji)) h3.1 hS' ?_⟩
      rw [Array.setIfInBounds_comm _ _ hji]
      exact h3.2.2

theorem wpAnyX_take {i : Nat} {oi : Oper} {v : Value} {fuel : Nat} {listed : Array Bool} {a : Act} {w : World} (hi : ops[i]? = some oi)
    (hs : Region.noSelect ops = true) (hf : Region.free md ops listed i = true) (hr : (Region.ready md ops listed).contains i = true) (hX : waits md ops x i = true)
    (hQ : ∀ c a w, Q (.panic c) (a.put oi.dst v) w → Q (.panic c) a w) (hy : YieldsIf P ops S oi v a) (hS : S w)
    (h : wpAnyX P md ops Q S x fuel (listed.setIfInBounds i true) (a.put oi.dst v) w) : wpAnyX P md ops Q S x (fuel + 1) listed a w :=
  wpAnyX_first hi (Region.noSelect_spec hs) hX hQ fuel listed a w (Region.free_spec hi hf) (by simpa using hr) hy hS h

theorem wpAnyX_one {i : Nat} {o : Oper} {fuel : Nat} {listed : Array Bool} {a : Act} {w : World} (hr : Region.ready md ops listed = [i]) (ho : ops[i]? = some o)
    (h : ∀ K' : Act → World → Prop, Shut (∀ a w, S w → (S w → wpAnyX P md ops Q S x fuel (listed.setIfInBounds i true) a w) → K' a w) → if Region.wanted o (yielded ops a.tmps) = true then Oper.wp P o a w K' Q else K' (a.put o.dst undef) w) :
    wpAnyX P md ops Q S x (fuel + 1) listed a w := by
  refine ⟨fun h0 => (by rw [hr] at h0; cases h0), fun j hj => ?_⟩
  rw [hr] at hj
  have hj : j = i := by simpa using hj
  subst hj
  exact wpOp_step ho (fun K' hK => h K' (fun a w hS hW => hK a w ⟨Or.inr hS, hW hS⟩))

/-- Operation x itself comes up: nothing is asked of the world behind it. -/
theorem wpAnyX_last {o : Oper} {fuel : Nat} {listed : Array Bool} {a : Act} {w : World} (hr : Region.ready md ops listed = [x]) (ho : ops[x]? = some o)
    (h : ∀ K' : Act → World → Prop, Shut (∀ a w, wpAnyX P md ops Q S x fuel (listed.setIfInBounds x true) a w → K' a w) → if Region.wanted o (yielded ops a.tmps) = true then Oper.wp P o a w K' Q else K' (a.put o.dst undef) w) :
    wpAnyX P md ops Q S x (fuel + 1) listed a w := by
  refine ⟨fun h0 => (by rw [hr] at h0; cases h0), fun j hj => ?_⟩
  rw [hr] at hj
  have hj : j = x := by simpa using hj
  subst hj
  exact wpOp_step ho (fun K' hK => h K' (fun a w hW => hK a w ⟨Or.inl rfl, hW⟩))

theorem wpAnyX_done {listed : Array Bool} {a : Act} {w : World} (hr : Region.ready md ops listed = []) (h : Q .normal a w) :
    ∀ fuel, wpAnyX P md ops Q S x fuel listed a w
  | 0 => ⟨hr, h⟩
  | _ + 1 => ⟨fun _ => h, by rw [hr]; simp⟩

theorem wp_region_X {id : Nat} {a : Act} {w : World} (x : Nat) (hm : P.follows .mixedOrders = true) (hS : S w.drew)
    (h : S w.drew → wpAnyX P .any ops Q S x ops.size (Array.replicate ops.size false) a w.drew) : (Code.region id ops true).wp P Q a w :=
  wp_region_any hm (wpAny_of_X _ _ _ _ (h hS))
end
end Go.Proofs.Ytplkfacaphejgaa
