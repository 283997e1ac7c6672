/-
  What a node stands under, without the program: the line of a node.
-/
import Derived.Test.YtebhlcjljdgnkaaUXdUe
import Derived.Test.YtebhlcjljdgnkaaUHaSg
import Derived.Laws.StructEq
import Derived.MapKept
import Derived.WideKeyRuns
namespace Go.Proofs.Ytebhlcjljdgnkaa
open Go.RowKit

def pathStep : List Int → Int → List Int × Bool := fun st x => (st ++ [x], true)

/-- What stands at a place, and what it stands right under, and so on. -/
def lineF (S : List Nd) : Nat → Int → List Int
  | 0, _ => []
  | f + 1, x => if isPl S.length x then x :: lineF S f (rightUnder (nd S x.toNat)) else []

theorem climb_line (S : List Nd) : ∀ (f : Nat) (x : Int) (st : List Int), climbF S rightUnder pathStep f x st = st ++ lineF S f x
  | 0, _, st => by simp [climbF, lineF]
  | f + 1, x, st => by
    simp only [climbF, lineF]
    cases isPl S.length x with
    | false => simp
    | true =>
      simp only [if_true, pathStep]
      rw [climb_line S f]
      simp

/-- The path of a place that there is. -/
def pathF (S : List Nd) (k : Nat) : List Int := (k : Int) :: lineF S S.length (rightUnder (nd S k))

theorem line_len (S : List Nd) : ∀ (f : Nat) (x : Int), (lineF S f x).length ≤ f
  | 0, _ => by simp [lineF]
  | f + 1, x => by
    simp only [lineF]
    split
    · have := line_len S f (rightUnder (nd S x.toNat))
      simp; omega
    · simp

theorem path_len (S : List Nd) (k : Nat) : (pathF S k).length ≤ S.length + 1 := by
  have := line_len S S.length (rightUnder (nd S k))
  unfold pathF
  simp; omega

theorem isPl_nat {N k : Nat} : isPl N (k : Int) = true ↔ k < N := by
  unfold isPl
  rw [decide_eq_true_eq]
  omega

theorem mem_line {S : List Nd} : ∀ {f : Nat} {x y : Int}, y ∈ lineF S f x → ∃ q j x' : Nat, y = q ∧ q < S.length ∧ x = x' ∧ x' < S.length ∧ j < f ∧ Up S j x' q
  | 0, _, _, h => by simp [lineF] at h
  | f + 1, x, y, h => by
    simp only [lineF] at h
    split at h
    · rename_i hx
      have hx2 : 0 ≤ x ∧ x ≤ (S.length : Int) - 1 := of_decide_eq_true hx
      obtain ⟨x', rfl⟩ : ∃ x' : Nat, x = x' := ⟨x.toNat, by omega⟩
      rcases List.mem_cons.1 h with rfl | h
      · exact ⟨x', 0, x', rfl, by omega, rfl, by omega, by omega, rfl⟩
      · rw [Int.toNat_natCast] at h
        obtain ⟨q, j, z, e1, e2, e3, e4, e5, e6⟩ := mem_line h
        exact ⟨q, j + 1, x', e1, e2, rfl, by omega, by omega, ⟨z, e4, e3, e6⟩⟩
    · cases h

theorem mem_path {S : List Nd} {k : Nat} (hk : k < S.length) {y : Int} (h : y ∈ pathF S k) : ∃ q j : Nat, y = q ∧ q < S.length ∧ Up S j k q := by
  unfold pathF at h
  rcases List.mem_cons.1 h with rfl | h
  · exact ⟨k, 0, rfl, hk, rfl⟩
  · obtain ⟨q, j, x', e1, e2, e3, e4, _, e6⟩ := mem_line h
    exact ⟨q, j + 1, e1, e2, ⟨x', e4, e3, e6⟩⟩

theorem line_more {S : List Nd} : ∀ {f : Nat} {x : Int}, (∀ (x' j z : Nat), x = x' → x' < S.length → Up S j x' z → j < f) → lineF S (f + 1) x = lineF S f x
  | 0, x, h => by
    simp only [lineF]
    split
    · rename_i hx
      have hx2 : 0 ≤ x ∧ x ≤ (S.length : Int) - 1 := of_decide_eq_true hx
      obtain ⟨x', rfl⟩ : ∃ x' : Nat, x = x' := ⟨x.toNat, by omega⟩
      exact absurd (h x' 0 x' rfl (by omega) rfl) (by omega)
    · rfl
  | f + 1, x, h => by
    rw [lineF]
    conv => rhs; rw [lineF]
    split
    · rename_i hx
      have hx2 : 0 ≤ x ∧ x ≤ (S.length : Int) - 1 := of_decide_eq_true hx
      obtain ⟨x', rfl⟩ : ∃ x' : Nat, x = x' := ⟨x.toNat, by omega⟩
      rw [Int.toNat_natCast]
      rw [line_more (fun y' j z e hy hu => ?_)]
      have := h x' (j + 1) z rfl (by omega) ⟨y', hy, e, hu⟩
      omega
    · rfl

/-- In a right store the path goes on as the path of what one stands right under. -/
theorem WF.path_up {S : List Nd} (h : WF S) {k q : Nat} (hk : k < S.length) (hq : q < S.length) (hr : rightUnder (nd S k) = q) : pathF S k = (k : Int) :: pathF S q := by
  unfold pathF
  rw [hr]
  congr 1
  obtain ⟨N, hN⟩ : ∃ N, S.length = N + 1 := ⟨S.length - 1, by omega⟩
  have e1 : lineF S S.length (q : Int) = (q : Int) :: lineF S N (rightUnder (nd S q)) := by
    rw [hN, lineF, hN, if_pos (isPl_nat.2 (by omega)), Int.toNat_natCast]
  rw [e1, hN]
  congr 1
  rw [line_more]
  intro x' j z e hx hu
  have := h.up_short hk (j := j + 2) (z := z) ⟨q, hq, hr, ⟨x', hx, e, hu⟩⟩
  omega

theorem WF.path_top {S : List Nd} {k : Nat} (hr : ¬ ∃ q : Nat, q < S.length ∧ rightUnder (nd S k) = q) : pathF S k = [(k : Int)] := by
  unfold pathF
  congr 1
  cases hN : S.length with
  | zero => rfl
  | succ N =>
    rw [lineF, if_neg]
    intro hx
    have hx2 : 0 ≤ rightUnder (nd S k) ∧ rightUnder (nd S k) ≤ (S.length : Int) - 1 := of_decide_eq_true hx
    exact hr ⟨(rightUnder (nd S k)).toNat, by omega, by omega⟩

theorem WF.path_suffix {S : List Nd} (h : WF S) : ∀ {j k q : Nat}, k < S.length → Up S j k q → ∃ pre, pathF S k = pre ++ pathF S q
  | 0, k, q, _, hu => ⟨[], by rw [show k = q from hu]; rfl⟩
  | j + 1, k, q, hk, ⟨z, hz, hr, hu⟩ => by
    obtain ⟨pre, hp⟩ := h.path_suffix hz hu
    exact ⟨(k : Int) :: pre, by rw [h.path_up hk hz hr, hp]; rfl⟩

theorem path_head (S : List Nd) (k : Nat) : (k : Int) ∈ pathF S k := by
  unfold pathF
  exact List.mem_cons_self

theorem WF.up_used {S : List Nd} (h : WF S) : ∀ {j k q : Nat}, k < S.length → (nd S k).u = true → Up S j k q → (nd S q).u = true
  | 0, k, q, _, hku, hu => by rw [← show k = q from hu]; exact hku
  | j + 1, k, q, hk, hku, ⟨z, hz, hr, hu⟩ => by
    refine h.up_used hz ?_ hu
    unfold rightUnder at hr
    by_cases e : (nd S k).h = -1
    · rw [if_pos e] at hr
      have hp : (nd S k).p ≠ -1 := by omega
      obtain ⟨pa, e1, _, _, _, e2⟩ := h.parent_place hk hp
      have : pa = z := by omega
      rw [← this]
      exact e2
    · rw [if_neg e] at hr
      have := (h.hosts k hk e).1
      rw [hr, Int.toNat_natCast] at this
      exact this

theorem WF.path_used {S : List Nd} (h : WF S) {k : Nat} (hk : k < S.length) (hku : (nd S k).u = true) {y : Int} (hy : y ∈ pathF S k) : ∃ q : Nat, y = q ∧ q < S.length ∧ (nd S q).u = true := by
  obtain ⟨q, j, e1, e2, e3⟩ := mem_path hk hy
  exact ⟨q, e1, e2, h.up_used hk hku e3⟩

/-- The roots in which the second of two nodes stands and the first doesn't. -/
def outB (S : List Nd) (P : List Int) (x : Int) : Bool := P.contains x || decide ((nd S x.toNat).h = -1)
def rootsF (S : List Nd) (p q : Nat) : List Int := flt (outB S (pathF S p)) (pathF S q)
def seenF (S : List Nd) (p q : Nat) : Bool := !((rootsF S p q).any fun x => (nd S x.toNat).c)
def targetF (S : List Nd) (k told : Nat) : Int := if rootsF S told k = [] then (k : Int) else (nd S ((rootsF S told k).getLastD 0).toNat).h

theorem mem_roots {S : List Nd} {p q : Nat} {x : Int} : x ∈ rootsF S p q ↔ x ∈ pathF S q ∧ x ∉ pathF S p ∧ (nd S x.toNat).h ≠ -1 := by
  unfold rootsF
  rw [mem_flt]
  unfold outB
  simp

theorem roots_self (S : List Nd) (k : Nat) : rootsF S k k = [] := by
  rw [List.eq_nil_iff_forall_not_mem]
  intro x hx
  obtain ⟨h1, h2, _⟩ := mem_roots.1 hx
  exact h2 h1

theorem seen_self (S : List Nd) (k : Nat) : seenF S k k = true := by
  unfold seenF
  rw [roots_self]
  rfl

theorem target_self (S : List Nd) (k : Nat) : targetF S k k = k := by
  unfold targetF
  rw [if_pos (roots_self S k)]

theorem getLastD_ne {l : List Int} (h : l ≠ []) : l.getLastD 0 = l.getLast h := by
  cases l with
  | nil => exact absurd rfl h
  | cons a r => rfl

/-- Where one is told of what happened: it is on the path, and nothing stands between. -/
theorem WF.target {S : List Nd} (h : WF S) {p q : Nat} (hq : q < S.length) (hqu : (nd S q).u = true) :
    ∃ t : Nat, targetF S q p = t ∧ t < S.length ∧ (nd S t).u = true ∧ (t : Int) ∈ pathF S q ∧ rootsF S p t = [] ∧ (t = q → rootsF S p q = []) := by
  unfold targetF
  by_cases hr : rootsF S p q = []
  · rw [if_pos hr]
    exact ⟨q, rfl, hq, hqu, path_head S q, hr, fun _ => hr⟩
  · rw [if_neg hr]
    have hl : (rootsF S p q).getLastD 0 = (rootsF S p q).getLast hr := getLastD_ne hr
    obtain ⟨m1, m2, m3⟩ := mem_roots.1 (List.getLast_mem hr)
    obtain ⟨r, j, e1, e2, e3⟩ := mem_path hq m1
    rw [hl, e1, Int.toNat_natCast]
    rw [e1] at m2 m3
    rw [Int.toNat_natCast] at m3
    have hb := (names_ks (names_of (h.node r e2))).2.1
    obtain ⟨t, ht⟩ : ∃ t : Nat, (nd S r).h = t := ⟨(nd S r).h.toNat, by omega⟩
    have hru : rightUnder (nd S r) = t := by
      unfold rightUnder
      rw [if_neg m3]
      exact ht
    have htl : t < S.length := by omega
    have htu : (nd S t).u = true := by
      have := (h.hosts r e2 m3).1
      rw [ht, Int.toNat_natCast] at this
      exact this
    obtain ⟨pre, hpre⟩ := h.path_suffix hq e3
    rw [h.path_up e2 htl hru] at hpre
    have nor : (r : Int) ∉ pathF S t := fun hm => by
      obtain ⟨r', j', e4, _, e5⟩ := mem_path htl hm
      have : r' = r := by omega
      subst this
      exact h.ringless e2 (j := j' + 1) (by omega) ⟨t, htl, hru, e5⟩
    refine ⟨t, ht, htl, htu, by rw [hpre]; exact List.mem_append_right _ (List.mem_cons_of_mem _ (path_head S t)), ?_, fun e => ?_⟩
    · by_cases h0 : rootsF S p t = []
      · exact h0
      · exfalso
        have hsplit : rootsF S p q = (flt (outB S (pathF S p)) pre ++ [(r : Int)]) ++ rootsF S p t := by
          unfold rootsF
          rw [hpre]
          unfold flt
          rw [List.filter_append, List.filter_cons, if_pos]
          · simp
          · unfold outB
            simp [m2, m3]
        have hlast : (rootsF S p q).getLast hr = (rootsF S p t).getLast h0 := by
          have : ∀ (l : List Int) (hl : l ≠ []), l = (flt (outB S (pathF S p)) pre ++ [(r : Int)]) ++ rootsF S p t → l.getLast hl = (rootsF S p t).getLast h0 := by
            intro l hl e
            subst e
            first | exact List.getLast_append_of_ne_nil _ h0 | exact List.getLast_append_of_ne_nil hl h0 | simp [h0]
          exact this _ hr hsplit
        have hm := (mem_roots.1 (List.getLast_mem h0)).1
        rw [← hlast, e1] at hm
        exact nor hm
    · exfalso
      subst e
      rw [e1] at m1
      exact nor m1

theorem line_congr {S A : List Nd} (hl : A.length = S.length) : ∀ {f : Nat} {x : Int}, (∀ y ∈ lineF S f x, rightUnder (nd A y.toNat) = rightUnder (nd S y.toNat)) → lineF A f x = lineF S f x
  | 0, _, _ => rfl
  | f + 1, x, h => by
    simp only [lineF, hl] at h ⊢
    cases hq : isPl S.length x with
    | false => rfl
    | true =>
      rw [hq] at h
      simp only [if_true] at h ⊢
      rw [h x List.mem_cons_self, line_congr hl (fun y hy => h y (List.mem_cons_of_mem _ hy))]

theorem path_congr {S A : List Nd} (hl : A.length = S.length) {k : Nat} (h : ∀ y ∈ pathF S k, rightUnder (nd A y.toNat) = rightUnder (nd S y.toNat)) : pathF A k = pathF S k := by
  unfold pathF at h ⊢
  have h0 := h (k : Int) List.mem_cons_self
  rw [Int.toNat_natCast] at h0
  rw [h0, hl, line_congr hl (fun y hy => h y (List.mem_cons_of_mem _ hy))]
end Go.Proofs.Ytebhlcjljdgnkaa

namespace Go.Proofs.Ytebhlcjljdgnkaa
open Go.RowKit
set_option linter.unusedVariables false

abbrev Spot := Int × Bool
def spotV (x : Spot) : Value := .agg #[.int .i64 x.1, .bool x.2]

set_option maxRecDepth 100000 in
theorem check_spot (em : Bool) (x : Spot) (w : World) : (Instr.checkKey em 10000 63 (spotV x)).run Try.prog w = .ok () w := by
  obtain ⟨p, d⟩ := x
  kernel_rfl

set_option maxRecDepth 100000 in
theorem eq_spot (x y : Spot) (w : World) : (Op.equal 63 (spotV x) (spotV y)).run Try.prog w = .ok (x == y) w := by
  obtain ⟨p, d⟩ := x
  obtain ⟨p', d'⟩ := y
  unfold spotV
  have h : (Op.equalIn 10000 63 (.agg #[.int .i64 p, .bool d]) (.agg #[.int .i64 p', .bool d'])).run Try.prog w = .ok (p == p' && d == d') w := by
    go_simp
    by_cases e : p = p'
    · subst e
      cases d <;> cases d' <;> simp
    · simp [e]
  exact h

def entF (off : Nat) : List (Spot × Value) → List MapEntry
  | [] => []
  | (x, v) :: t => ⟨spotV x, v, off⟩ :: entF (off + 1) t
def findF (x : Spot) : List (Spot × Value) → Nat → Option (Nat × Value)
  | [], _ => none
  | (y, v) :: t, i => if x = y then some (i, v) else findF x t (i + 1)
def SpotMap (w : World) (b : Nat) (E : List (Spot × Value)) : Prop := w.heap[b]? = some (.map (entF 0 E).toArray E.length)
def getE (E : List (Spot × Value)) (x : Spot) : Value := ((findF x E 0).map Prod.snd).getD (.slice none 0 0)

theorem ask_spot (x : Spot) (w : World) : ∀ (E : List (Spot × Value)) (off i : Nat), (Instr.findAsking 63 (spotV x) (entF off E) i).run Try.prog w = .ok (findF x E i) w
  | [], off, i => rfl
  | (y, v) :: t, off, i => by
    rw [entF, findF, Instr.findAsking]
    simp only [Sem.run_bind, eq_spot, Result.andThen_ok]
    by_cases e : x = y
    · subst e
      simp
    · have h : (x == y) = false := by simpa using e
      rw [h, if_neg e]
      simpa using ask_spot x w t (off + 1) (i + 1)
theorem find_spot (x : Spot) (E : List (Spot × Value)) (w : World) : (Instr.findKey 63 (spotV x) (entF 0 E)).run Try.prog w = .ok (findF x E 0) w := by
  have h := run_findKey_eq (P := Try.prog) (w := w) (k := 63) (by kernel_rfl) (spotV x) (entF 0 E)
  exact h.trans (ask_spot x w E 0 0)

theorem entF_len : ∀ (E : List (Spot × Value)) (off : Nat), (entF off E).length = E.length
  | [], _ => rfl
  | (x, v) :: t, off => by rw [entF, List.length_cons, entF_len t (off + 1), List.length_cons]
theorem entF_get : ∀ (E : List (Spot × Value)) (off i : Nat) (x : Spot) (v : Value), E[i]? = some (x, v) → (entF off E)[i]? = some ⟨spotV x, v, off + i⟩
  | [], _, _, _, _, h => by simp at h
  | (y, u) :: t, off, 0, x, v, h => by
    simp at h
    obtain ⟨rfl, rfl⟩ := h
    simp [entF]
  | (y, u) :: t, off, i + 1, x, v, h => by
    rw [entF, List.getElem?_cons_succ]
    rw [List.getElem?_cons_succ] at h
    rw [entF_get t (off + 1) i x v h, show off + 1 + i = off + (i + 1) by omega]
theorem entF_snoc : ∀ (E : List (Spot × Value)) (off : Nat) (x : Spot) (v : Value), entF off (E ++ [(x, v)]) = entF off E ++ [⟨spotV x, v, off + E.length⟩]
  | [], off, x, v => by simp [entF]
  | (y, u) :: t, off, x, v => by
    rw [List.cons_append, entF, entF_snoc t (off + 1), entF, List.length_cons, show off + 1 + t.length = off + (t.length + 1) by omega]
    rfl
theorem entF_set : ∀ (E : List (Spot × Value)) (off i : Nat) (x : Spot) (u v : Value), E[i]? = some (x, u) → entF off (E.set i (x, v)) = (entF off E).set i ⟨spotV x, v, off + i⟩
  | [], _, _, _, _, _, h => by simp at h
  | (y, w) :: t, off, 0, x, u, v, h => by
    simp at h
    obtain ⟨rfl, rfl⟩ := h
    simp [entF]
  | (y, w) :: t, off, i + 1, x, u, v, h => by
    rw [List.getElem?_cons_succ] at h
    rw [List.set_cons_succ, entF, entF_set t (off + 1) i x u v h, entF, List.set_cons_succ, show off + 1 + i = off + (i + 1) by omega]
theorem findF_some : ∀ {x : Spot} {E : List (Spot × Value)} {k i : Nat} {v : Value}, findF x E k = some (i, v) → k ≤ i ∧ E[i - k]? = some (x, v)
  | x, [], k, i, v, h => by simp [findF] at h
  | x, (y, u) :: t, k, i, v, h => by
    rw [findF] at h
    by_cases e : x = y
    · rw [if_pos e] at h
      simp at h
      obtain ⟨rfl, rfl⟩ := h
      subst e
      simp
    · rw [if_neg e] at h
      obtain ⟨h1, h2⟩ := findF_some h
      refine ⟨by omega, ?_⟩
      rw [show i - k = (i - (k + 1)) + 1 by omega, List.getElem?_cons_succ]
      exact h2
theorem findF_none : ∀ {x : Spot} {E : List (Spot × Value)} {k : Nat}, findF x E k = none → ∀ y ∈ E, y.1 ≠ x
  | x, [], k, h, y, hy => by simp at hy
  | x, (z, u) :: t, k, h, y, hy => by
    rw [findF] at h
    by_cases e : x = z
    · rw [if_pos e] at h; simp at h
    · rw [if_neg e] at h
      rcases List.mem_cons.1 hy with rfl | hy
      · exact fun e2 => e e2.symm
      · exact findF_none h y hy

/-- The same block, another object in it. -/
def putO (w : World) (b : Nat) (o : Obj) : World := { w with heap := w.heap.setIfInBounds b o }
theorem putO_same {w : World} {b : Nat} {o : Obj} (h : w.heap[b]? = some o) : putO w b o = w := by
  unfold putO
  have hb := (Array.getElem?_eq_some_iff.1 h).1
  have : w.heap.setIfInBounds b o = w.heap := by
    apply Array.ext_getElem?
    intro i
    rw [Array.getElem?_setIfInBounds]
    by_cases e : b = i
    · subst e
      rw [if_pos rfl, if_pos hb, h]
    · rw [if_neg e]
  rw [this]
theorem putO_at {w : World} {b : Nat} {o o' : Obj} (h : w.heap[b]? = some o) : (putO w b o').heap[b]? = some o' := by
  unfold putO
  have hb := (Array.getElem?_eq_some_iff.1 h).1
  simp [hb]
theorem putO_grown (w : World) (b : Nat) (o : Obj) : w.grownBy (putO w b o) (some b) := by
  refine ⟨rfl, rfl, rfl, by simp [putO], fun k _ hne => ?_⟩
  unfold putO
  have : b ≠ k := fun e => hne (by rw [e])
  simp [this]

set_option maxRecDepth 100000 in
theorem look_spot {w : World} {b : Nat} {E : List (Spot × Value)} (h : SpotMap w b E) (x : Spot) : (Instr.lookup 58 (.map (some b)) (spotV x) false).run Try.prog w = .ok (getE E x) w := by
  unfold SpotMap at h
  have hz : (zeroValue 25).run Try.prog w = .ok (.slice none 0 0) w := by kernel_rfl
  unfold Instr.lookup getE
  simp only [Sem.run_bind, run_underlying Try.underlying58, Result.andThen_ok, MapKept.run_getObj_map h, Sem.run_pure, check_spot, find_spot]
  cases findF x E 0 with
  | none => simp [hz]
  | some y => simp

set_option maxRecDepth 100000 in
theorem entry_new {w : World} {b : Nat} {E : List (Spot × Value)} (h : SpotMap w b E) (x : Spot) (hx : findF x E 0 = none) : ∃ w', (Instr.mapEntry 58 (.map (some b)) (spotV x)).run Try.prog w = .ok (.tuple #[.slice none 0 0, goInt E.length]) w' ∧ SpotMap w' b (E ++ [(x, .slice none 0 0)]) ∧ w.grownBy w' (some b) := by
  have hz : (zeroValue 25).run Try.prog w = .ok (.slice none 0 0) w := by kernel_rfl
  refine ⟨putO w b (.map ((entF 0 E).toArray.push ⟨spotV x, .slice none 0 0, E.length⟩) (E.length + 1)), ?_, ?_, putO_grown _ _ _⟩
  · unfold SpotMap at h
    unfold Instr.mapEntry
    simp only [Sem.run_bind, run_underlying Try.underlying58, Result.andThen_ok, MapKept.run_getObj_map h, Sem.run_pure, check_spot, find_spot, hx, hz, MapKept.run_setObj_map _ h]
    rfl
  · show _ = _
    rw [putO_at h, entF_snoc, List.length_append, List.length_singleton]
    simp

set_option maxRecDepth 100000 in
theorem same_spot (x : Spot) : Instr.sameBits 10000 (spotV x) (spotV x) = true := by
  obtain ⟨p, d⟩ := x
  unfold spotV
  simp [Instr.sameBits]

set_option maxRecDepth 100000 in
theorem entry_old {w : World} {b i : Nat} {v : Value} {E : List (Spot × Value)} (h : SpotMap w b E) (x : Spot) (hx : findF x E 0 = some (i, v)) : (Instr.mapEntry 58 (.map (some b)) (spotV x)).run Try.prog w = .ok (.tuple #[v, goInt i]) w := by
  have hg := (findF_some hx).2
  rw [Nat.sub_zero] at hg
  have he := entF_get E 0 i x v hg
  rw [Nat.zero_add] at he
  have he2 : (entF 0 E).toArray[i]? = some ⟨spotV x, v, i⟩ := by simpa using he
  have hmod : (entF 0 E).toArray.modify i (fun e => { e with key := spotV x }) = (entF 0 E).toArray := by
    apply Array.ext_getElem?
    intro j
    rw [Array.getElem?_modify]
    by_cases e : i = j
    · subst e
      rw [if_pos rfl, he2]
      rfl
    · rw [if_neg e]
  unfold SpotMap at h
  unfold Instr.mapEntry
  simp only [Sem.run_bind, run_underlying Try.underlying58, Result.andThen_ok, MapKept.run_getObj_map h, Sem.run_pure, check_spot, find_spot, hx, he2, Option.map_some, Option.getD_some, Instr.keyThatStays, same_spot, if_true, hmod, MapKept.run_setObj_map _ h]
  have := putO_same h
  unfold putO at this
  rw [this]

set_option maxRecDepth 100000 in
theorem entry_store {w : World} {b i : Nat} {u : Value} {E : List (Spot × Value)} (h : SpotMap w b E) (x : Spot) (hx : E[i]? = some (x, u)) (v : Value) : ∃ w', (Instr.entryStore 58 (.map (some b)) (goInt i) v).run Try.prog w = .ok () w' ∧ SpotMap w' b (E.set i (x, v)) ∧ w.grownBy w' (some b) := by
  have he := entF_get E 0 i x u hx
  rw [Nat.zero_add] at he
  have hlt : i < E.length := (List.getElem?_eq_some_iff.1 hx).1
  have hbn : ∀ j (hj : j < (entF 0 E).length), ((entF 0 E)[j]).born = j := fun j hj => by
    rw [entF_len] at hj
    obtain ⟨y, hy⟩ : ∃ y, E[j]? = some y := ⟨E[j], List.getElem?_eq_getElem hj⟩
    have := entF_get E 0 j y.1 y.2 hy
    rw [Nat.zero_add] at this
    rw [(List.getElem?_eq_some_iff.1 this).2]
  have hf : (entF 0 E).toArray.findIdx? (fun e => (e.born : Int) == (i : Int)) = some i := by
    rw [List.findIdx?_toArray, List.findIdx?_eq_some_iff_getElem]
    refine ⟨by rw [entF_len]; exact hlt, by rw [hbn]; simp, fun j hj => ?_⟩
    rw [hbn]
    simp
    omega
  refine ⟨putO w b (.map ((entF 0 E).toArray.modify i fun e => { e with val := v }) E.length), ?_, ?_, putO_grown _ _ _⟩
  · unfold SpotMap at h
    unfold Instr.entryStore
    simp only [Sem.run_bind, Result.andThen_ok, MapKept.run_getObj_map h, Sem.run_pure, goInt, asInt, asIntOf, hf, MapKept.run_setObj_map _ h]
    rfl
  · show _ = _
    rw [putO_at h, entF_set E 0 i x u v hx, List.length_set, Nat.zero_add]
    congr 2
    apply Array.ext_getElem?
    intro j
    rw [Array.getElem?_modify]
    by_cases e : i = j
    · subst e
      have h1 : (entF 0 E).toArray[i]? = some ⟨spotV x, u, i⟩ := by simpa using he
      rw [if_pos rfl, h1]
      simp [entF_len, hlt]
    · rw [if_neg e]
      simp [e]
end Go.Proofs.Ytebhlcjljdgnkaa
