/-
  What a node stands under, without the program: the line of a node.
-/
import Derived.Test.YtplkfacaphejgaaUXdRbRh
namespace Go.Proofs.Ytplkfacaphejgaa
open Go.RowKit

def pathStep : List Int → Int → List Int × Bool := fun st x => (st ++ [x], true)

/-- What stands at a place, and what it stands right under, and so on. -/
def lineF (S : List Nd) : Nat → Int → List Int
  | 0, _ => []
  | f + 1, x => if isPl S.length x then x :: lineF S f (rightUnder (nd S x.toNat)) else []

theorem climb_line (S : List Nd) : ∀ (f : Nat) (x : Int) (st : List Int), climbF S rightUnder pathStep f x st = st ++ lineF S f x
  | 0, _, st => by simp [climbF, lineF]
  | f + 1, x, st => by
    simp only [climbF, lineF]
    cases isPl S.length x with
    | false => simp
    | true =>
      simp only [if_true, pathStep]
      rw [climb_line S f]
      simp

/-- The path of a place that there is. -/
def pathF (S : List Nd) (k : Nat) : List Int := (k : Int) :: lineF S S.length (rightUnder (nd S k))

theorem line_len (S : List Nd) : ∀ (f : Nat) (x : Int), (lineF S f x).length ≤ f
  | 0, _ => by simp [lineF]
  | f + 1, x => by
    simp only [lineF]
    split
    · have := line_len S f (rightUnder (nd S x.toNat))
      simp; omega
    · simp

theorem path_len (S : List Nd) (k : Nat) : (pathF S k).length ≤ S.length + 1 := by
  have := line_len S S.length (rightUnder (nd S k))
  unfold pathF
  simp; omega

theorem isPl_nat {N k : Nat} : isPl N (k : Int) = true ↔ k < N := by
  unfold isPl
  rw [decide_eq_true_eq]
  omega

theorem mem_line {S : List Nd} : ∀ {f : Nat} {x y : Int}, y ∈ lineF S f x → ∃ q j x' : Nat, y = q ∧ q < S.length ∧ x = x' ∧ x' < S.length ∧ j < f ∧ Up S j x' q
  | 0, _, _, h => by simp [lineF] at h
  | f + 1, x, y, h => by
    simp only [lineF] at h
    split at h
    · rename_i hx
      have hx2 : 0 ≤ x ∧ x ≤ (S.length : Int) - 1 := of_decide_eq_true hx
      obtain ⟨x', rfl⟩ : ∃ x' : Nat, x = x' := ⟨x.toNat, by omega⟩
      rcases List.mem_cons.1 h with rfl | h
      · exact ⟨x', 0, x', rfl, by omega, rfl, by omega, by omega, rfl⟩
      · rw [Int.toNat_natCast] at h
        obtain ⟨q, j, z, e1, e2, e3, e4, e5, e6⟩ := mem_line h
        exact ⟨q, j + 1, x', e1, e2, rfl, by omega, by omega, ⟨z, e4, e3, e6⟩⟩
    · cases h

theorem mem_path {S : List Nd} {k : Nat} (hk : k < S.length) {y : Int} (h : y ∈ pathF S k) : ∃ q j : Nat, y = q ∧ q < S.length ∧ Up S j k q := by
  unfold pathF at h
  rcases List.mem_cons.1 h with rfl | h
  · exact ⟨k, 0, rfl, hk, rfl⟩
  · obtain ⟨q, j, x', e1, e2, e3, e4, _, e6⟩ := mem_line h
    exact ⟨q, j + 1, e1, e2, ⟨x', e4, e3, e6⟩⟩

theorem line_more {S : List Nd} : ∀ {f : Nat} {x : Int}, (∀ (x' j z : Nat), x = x' → x' < S.length → Up S j x' z → j < f) → lineF S (f + 1) x = lineF S f x
  | 0, x, h => by
    simp only [lineF]
    split
    · rename_i hx
      have hx2 : 0 ≤ x ∧ x ≤ (S.length : Int) - 1 := of_decide_eq_true hx
      obtain ⟨x', rfl⟩ : ∃ x' : Nat, x = x' := ⟨x.toNat, by omega⟩
      exact absurd (h x' 0 x' rfl (by omega) rfl) (by omega)
    · rfl
  | f + 1, x, h => by
    rw [lineF]
    conv => rhs; rw [lineF]
    split
    · rename_i hx
      have hx2 : 0 ≤ x ∧ x ≤ (S.length : Int) - 1 := of_decide_eq_true hx
      obtain ⟨x', rfl⟩ : ∃ x' : Nat, x = x' := ⟨x.toNat, by omega⟩
      rw [Int.toNat_natCast]
      rw [line_more (fun y' j z e hy hu => ?_)]
      have := h x' (j + 1) z rfl (by omega) ⟨y', hy, e, hu⟩
      omega
    · rfl

/-- In a right store the path goes on as the path of what one stands right under. -/
theorem WF.path_up {S : List Nd} (h : WF S) {k q : Nat} (hk : k < S.length) (hq : q < S.length) (hr : rightUnder (nd S k) = q) : pathF S k = (k : Int) :: pathF S q := by
  unfold pathF
  rw [hr]
  congr 1
  obtain ⟨N, hN⟩ : ∃ N, S.length = N + 1 := ⟨S.length - 1, by omega⟩
  have e1 : lineF S S.length (q : Int) = (q : Int) :: lineF S N (rightUnder (nd S q)) := by
    rw [hN, lineF, hN, if_pos (isPl_nat.2 (by omega)), Int.toNat_natCast]
  rw [e1, hN]
  congr 1
  rw [line_more]
  intro x' j z e hx hu
  have := h.up_short hk (j := j + 2) (z := z) ⟨q, hq, hr, ⟨x', hx, e, hu⟩⟩
  omega

theorem WF.path_top {S : List Nd} {k : Nat} (hr : ¬ ∃ q : Nat, q < S.length ∧ rightUnder (nd S k) = q) : pathF S k = [(k : Int)] := by
  unfold pathF
  congr 1
  cases hN : S.length with
  | zero => rfl
  | succ N =>
    rw [lineF, if_neg]
    intro hx
    have hx2 : 0 ≤ rightUnder (nd S k) ∧ rightUnder (nd S k) ≤ (S.length : Int) - 1 := of_decide_eq_true hx
    exact hr ⟨(rightUnder (nd S k)).toNat, by omega, by omega⟩

theorem WF.path_suffix {S : List Nd} (h : WF S) : ∀ {j k q : Nat}, k < S.length → Up S j k q → ∃ pre, pathF S k = pre ++ pathF S q
  | 0, k, q, _, hu => ⟨[], by rw [show k = q from hu]; rfl⟩
  | j + 1, k, q, hk, ⟨z, hz, hr, hu⟩ => by
    obtain ⟨pre, hp⟩ := h.path_suffix hz hu
    exact ⟨(k : Int) :: pre, by rw [h.path_up hk hz hr, hp]; rfl⟩

theorem path_head (S : List Nd) (k : Nat) : (k : Int) ∈ pathF S k := by
  unfold pathF
  exact List.mem_cons_self

theorem WF.up_used {S : List Nd} (h : WF S) : ∀ {j k q : Nat}, k < S.length → (nd S k).u = true → Up S j k q → (nd S q).u = true
  | 0, k, q, _, hku, hu => by rw [← show k = q from hu]; exact hku
  | j + 1, k, q, hk, hku, ⟨z, hz, hr, hu⟩ => by
    refine h.up_used hz ?_ hu
    unfold rightUnder at hr
    by_cases e : (nd S k).h = -1
    · rw [if_pos e] at hr
      have hp : (nd S k).p ≠ -1 := by omega
      obtain ⟨pa, e1, _, _, _, e2⟩ := h.parent_place hk hp
      have : pa = z := by omega
      rw [← this]
      exact e2
    · rw [if_neg e] at hr
      have := (h.hosts k hk e).1
      rw [hr, Int.toNat_natCast] at this
      exact this

theorem WF.path_used {S : List Nd} (h : WF S) {k : Nat} (hk : k < S.length) (hku : (nd S k).u = true) {y : Int} (hy : y ∈ pathF S k) : ∃ q : Nat, y = q ∧ q < S.length ∧ (nd S q).u = true := by
  obtain ⟨q, j, e1, e2, e3⟩ := mem_path hk hy
  exact ⟨q, e1, e2, h.up_used hk hku e3⟩

/-- The roots in which the second of two nodes stands and the first doesn't. -/
def outB (S : List Nd) (P : List Int) (x : Int) : Bool := P.contains x || decide ((nd S x.toNat).h = -1)
def rootsF (S : List Nd) (p q : Nat) : List Int := flt (outB S (pathF S p)) (pathF S q)
def seenF (S : List Nd) (p q : Nat) : Bool := !((rootsF S p q).any fun x => (nd S x.toNat).c)
def targetF (S : List Nd) (k told : Nat) : Int := if rootsF S told k = [] then (k : Int) else (nd S ((rootsF S told k).getLastD 0).toNat).h

theorem mem_roots {S : List Nd} {p q : Nat} {x : Int} : x ∈ rootsF S p q ↔ x ∈ pathF S q ∧ x ∉ pathF S p ∧ (nd S x.toNat).h ≠ -1 := by
  unfold rootsF
  rw [mem_flt]
  unfold outB
  simp

theorem roots_self (S : List Nd) (k : Nat) : rootsF S k k = [] := by
  rw [List.eq_nil_iff_forall_not_mem]
  intro x hx
  obtain ⟨h1, h2, _⟩ := mem_roots.1 hx
  exact h2 h1

theorem seen_self (S : List Nd) (k : Nat) : seenF S k k = true := by
  unfold seenF
  rw [roots_self]
  rfl

theorem target_self (S : List Nd) (k : Nat) : targetF S k k = k := by
  unfold targetF
  rw [if_pos (roots_self S k)]

theorem getLastD_ne {l : List Int} (h : l ≠ []) : l.getLastD 0 = l.getLast h := by
  cases l with
  | nil => exact absurd rfl h
  | cons a r => rfl

/-- Where one is told of what happened: it is on the path, and nothing stands between. -/
theorem WF.target {S : List Nd} (h : WF S) {p q : Nat} (hq : q < S.length) (hqu : (nd S q).u = true) :
    ∃ t : Nat, targetF S q p = t ∧ t < S.length ∧ (nd S t).u = true ∧ (t : Int) ∈ pathF S q ∧ rootsF S p t = [] ∧ (t = q → rootsF S p q = []) := by
  unfold targetF
  by_cases hr : rootsF S p q = []
  · rw [if_pos hr]
    exact ⟨q, rfl, hq, hqu, path_head S q, hr, fun _ => hr⟩
  · rw [if_neg hr]
    have hl : (rootsF S p q).getLastD 0 = (rootsF S p q).getLast hr := getLastD_ne hr
    obtain ⟨m1, m2, m3⟩ := mem_roots.1 (List.getLast_mem hr)
    obtain ⟨r, j, e1, e2, e3⟩ := mem_path hq m1
    rw [hl, e1, Int.toNat_natCast]
    rw [e1] at m2 m3
    rw [Int.toNat_natCast] at m3
    have hb := (names_ks (names_of (h.node r e2))).2.1
    obtain ⟨t, ht⟩ : ∃ t : Nat, (nd S r).h = t := ⟨(nd S r).h.toNat, by omega⟩
    have hru : rightUnder (nd S r) = t := by
      unfold rightUnder
      rw [if_neg m3]
      exact ht
    have htl : t < S.length := by omega
    have htu : (nd S t).u = true := by
      have := (h.hosts r e2 m3).1
      rw [ht, Int.toNat_natCast] at this
      exact this
    obtain ⟨pre, hpre⟩ := h.path_suffix hq e3
    rw [h.path_up e2 htl hru] at hpre
    have nor : (r : Int) ∉ pathF S t := fun hm => by
      obtain ⟨r', j', e4, _, e5⟩ := mem_path htl hm
      have : r' = r := by omega
      subst this
      exact h.ringless e2 (j := j' + 1) (by omega) ⟨t, htl, hru, e5⟩
    refine ⟨t, ht, htl, htu, by rw [hpre]; exact List.mem_append_right _ (List.mem_cons_of_mem _ (path_head S t)), ?_, fun e => ?_⟩
    · by_cases h0 : rootsF S p t = []
      · exact h0
      · exfalso
        have hsplit : rootsF S p q = (flt (outB S (pathF S p)) pre ++ [(r : Int)]) ++ rootsF S p t := by
          unfold rootsF
          rw [hpre]
          unfold flt
          rw [List.filter_append, List.filter_cons, if_pos]
          · simp
          · unfold outB
            simp [m2, m3]
        have hlast : (rootsF S p q).getLast hr = (rootsF S p t).getLast h0 := by
          have : ∀ (l : List Int) (hl : l ≠ []), l = (flt (outB S (pathF S p)) pre ++ [(r : Int)]) ++ rootsF S p t → l.getLast hl = (rootsF S p t).getLast h0 := by
            intro l hl e
            subst e
            first | exact List.getLast_append_of_ne_nil _ h0 | exact List.getLast_append_of_ne_nil hl h0 | simp [h0]
          exact this _ hr hsplit
        have hm := (mem_roots.1 (List.getLast_mem h0)).1
        rw [← hlast, e1] at hm
        exact nor hm
    · exfalso
      subst e
      rw [e1] at m1
      exact nor m1

theorem line_congr {S A : List Nd} (hl : A.length = S.length) : ∀ {f : Nat} {x : Int}, (∀ y ∈ lineF S f x, rightUnder (nd A y.toNat) = rightUnder (nd S y.toNat)) → lineF A f x = lineF S f x
  | 0, _, _ => rfl
  | f + 1, x, h => by
    simp only [lineF, hl] at h ⊢
    cases hq : isPl S.length x with
    | false => rfl
    | true =>
      rw [hq] at h
      simp only [if_true] at h ⊢
      rw [h x List.mem_cons_self, line_congr hl (fun y hy => h y (List.mem_cons_of_mem _ hy))]

theorem path_congr {S A : List Nd} (hl : A.length = S.length) {k : Nat} (h : ∀ y ∈ pathF S k, rightUnder (nd A y.toNat) = rightUnder (nd S y.toNat)) : pathF A k = pathF S k := by
  unfold pathF at h ⊢
  have h0 := h (k : Int) List.mem_cons_self
  rw [Int.toNat_natCast] at h0
  rw [h0, hl, line_congr hl (fun y hy => h y (List.mem_cons_of_mem _ hy))]
end Go.Proofs.Ytplkfacaphejgaa
