/-
  slices.Index, slices.Contains over hearers.
-/
import Derived.Test.YtpnhmpmdeoaieaaQHcHfHh
import Derived.Test.YtpnhmpmdeoaieaaQHa
import Derived.Laws.StructEq
import Derived.MapKept
import Derived.WideKeyRuns
namespace Go.Proofs.Ytpnhmpmdeoaieaa
open Go.RowKit
set_option linter.unusedVariables false

set_option maxRecDepth 100000 in
set_option maxHeartbeats 2000000 in
theorem hasHr_any (ha : Option Addr) (hc : Nat) (L : List Hr) (x : Hr) (w : World) (hL : L.length ≤ 9223372036854775807) (hH : HrsAt w ha L) :
    Calls Try.prog 44 #[.slice ha L.length hc, .agg #[.int .i64 x.pl, .bool x.dn, .bool x.on, .bool x.st, .int .i64 x.id]] w fun e w' => ∃ r : Int, e = .returned (.int .i64 r) ∧ Below w.heap.size w w' ∧ ((0 ≤ r) ↔ x ∈ L) := by
  have HH : Hid (HrsAt w ha L) := hH
  have IN : Hid (∀ k, k < L.length → hr L k = x → x ∈ L) := fun k hk h => by rw [← h, hr_elem hk]; exact List.getElem_mem hk
  have OUT : Hid ((∀ k, k < L.length → hr L k ≠ x) → x ∉ L) := fun h hm => by
    obtain ⟨i, hi, e⟩ := List.getElem_of_mem hm
    exact h i hi (by rw [hr_elem hi]; exact e)
  clear hH
  obtain ⟨m, hm⟩ : ∃ m, L.length = m := ⟨_, rfl⟩
  have HM : Hid (L.length = m) := hm
  rw [hm] at hL IN OUT ⊢
  clear hm
  generalize (x ∈ L) = Q at *
  obtain ⟨xp, xd, xo, xs, xi⟩ := x
  dsimp only
  go_enter Try.func44, Try.ntmps44
  go_wp2
  go_loopg [8] m (fun g s8 wr => ∃ k : Nat, k ≤ m ∧ m - k ≤ g ∧ s8 = .int .i64 k ∧ Below (w.heap.size + 1) (w.alloc (.cells #[.int .i64 xp, .bool xd, .bool xo, .bool xs, .int .i64 xi] 39)) wr ∧ Hid (∀ i, i < k → hr L i ≠ ⟨xp, xd, xo, xs, xi⟩))
  case atStart => exact ⟨0, by omega, by omega, rfl, Below.refl _ _, (show Hid _ from fun i hi => absurd hi (Nat.not_lt_zero _))⟩
  case round =>
    obtain ⟨k, hk, hg, rfl, hb, A⟩ := hrel
    have hB0 : Below w.heap.size w wr := ((Below.refl _ _).alloc (Nat.le_refl _) _).trans (hb.mono (by omega))
    have x0 : wr.cell? ⟨w.heap.size, 0, none⟩ = some (.int .i64 xp) := (hb.cell (by simp)).trans (by go_simp)
    have x1 : wr.cell? ⟨w.heap.size, 1, none⟩ = some (.bool xd) := (hb.cell (by simp)).trans (by go_simp)
    have x2 : wr.cell? ⟨w.heap.size, 2, none⟩ = some (.bool xo) := (hb.cell (by simp)).trans (by go_simp)
    have x3 : wr.cell? ⟨w.heap.size, 3, none⟩ = some (.bool xs) := (hb.cell (by simp)).trans (by go_simp)
    have x4 : wr.cell? ⟨w.heap.size, 4, none⟩ = some (.int .i64 xi) := (hb.cell (by simp)).trans (by go_simp)
    by_cases hlt : k < m
    · have hlt2 : (k : Int) < (m : Int) := by omega
      obtain ⟨b, o, rfl, c0, c1, c2, c3, c4⟩ := (HH.out.below hB0) k (by rw [HM.out]; exact hlt)
      generalize hy : hr L k = y at *
      obtain ⟨yp, yd, yo, ys, yi⟩ := y
      dsimp only at c0 c1 c2 c3 c4
      have HY : Hid _ := hy
      clear hy
      by_cases e0 : xp = yp
      · by_cases e1 : xd = yd
        · by_cases e2 : xo = yo
          · by_cases e3 : xs = ys
            · by_cases e4 : xi = yi
              · subst e0
                subst e1
                subst e2
                subst e3
                subst e4
                have Z : Hid _ := IN.out k hlt HY.out
                go_wp2_with fail
                go_quiet (fail)
                go_wp2
                go_ret
                exact ⟨k, rfl, Below.drewNs hB0 _, fun _ => Z.out, fun _ => by omega⟩
              · have ef : (xi == yi) = false := beq_eq_false_iff_ne.2 e4
                have NE : Hid ((⟨yp, yd, yo, ys, yi⟩ : Hr) ≠ ⟨xp, xd, xo, xs, xi⟩) := fun h => e4 (by cases h; rfl)
                subst e0
                subst e1
                subst e2
                subst e3
                go_wp2_with fail
                go_quiet (fail)
                go_wp2
                go_roundg (m - (k + 1))
                case measure => omega
                case rel =>
                  refine ⟨k + 1, by omega, by omega, by go_num, Below.drewNs hb _, (show Hid _ from fun i hi => ?_)⟩
                  by_cases e : i = k
                  · rw [e, HY.out]; exact NE.out
                  · exact A.out i (by omega)
            · have ef : (xs == ys) = false := beq_eq_false_iff_ne.2 e3
              have NE : Hid ((⟨yp, yd, yo, ys, yi⟩ : Hr) ≠ ⟨xp, xd, xo, xs, xi⟩) := fun h => e3 (by cases h; rfl)
              subst e0
              subst e1
              subst e2
              go_wp2_with fail
              go_quiet (fail)
              go_wp2
              go_roundg (m - (k + 1))
              case measure => omega
              case rel =>
                refine ⟨k + 1, by omega, by omega, by go_num, Below.drewNs hb _, (show Hid _ from fun i hi => ?_)⟩
                by_cases e : i = k
                · rw [e, HY.out]; exact NE.out
                · exact A.out i (by omega)
          · have ef : (xo == yo) = false := beq_eq_false_iff_ne.2 e2
            have NE : Hid ((⟨yp, yd, yo, ys, yi⟩ : Hr) ≠ ⟨xp, xd, xo, xs, xi⟩) := fun h => e2 (by cases h; rfl)
            subst e0
            subst e1
            go_wp2_with fail
            go_quiet (fail)
            go_wp2
            go_roundg (m - (k + 1))
            case measure => omega
            case rel =>
              refine ⟨k + 1, by omega, by omega, by go_num, Below.drewNs hb _, (show Hid _ from fun i hi => ?_)⟩
              by_cases e : i = k
              · rw [e, HY.out]; exact NE.out
              · exact A.out i (by omega)
        · have ef : (xd == yd) = false := beq_eq_false_iff_ne.2 e1
          have NE : Hid ((⟨yp, yd, yo, ys, yi⟩ : Hr) ≠ ⟨xp, xd, xo, xs, xi⟩) := fun h => e1 (by cases h; rfl)
          subst e0
          go_wp2_with fail
          go_quiet (fail)
          go_wp2
          go_roundg (m - (k + 1))
          case measure => omega
          case rel =>
            refine ⟨k + 1, by omega, by omega, by go_num, Below.drewNs hb _, (show Hid _ from fun i hi => ?_)⟩
            by_cases e : i = k
            · rw [e, HY.out]; exact NE.out
            · exact A.out i (by omega)
      · have ef : (xp == yp) = false := beq_eq_false_iff_ne.2 e0
        have NE : Hid ((⟨yp, yd, yo, ys, yi⟩ : Hr) ≠ ⟨xp, xd, xo, xs, xi⟩) := fun h => e0 (by cases h; rfl)
        go_wp2_with fail
        go_quiet (fail)
        go_wp2
        go_roundg (m - (k + 1))
        case measure => omega
        case rel =>
          refine ⟨k + 1, by omega, by omega, by go_num, Below.drewNs hb _, (show Hid _ from fun i hi => ?_)⟩
          by_cases e : i = k
          · rw [e, HY.out]; exact NE.out
          · exact A.out i (by omega)
    · have : k = m := by omega
      subst this
      have Z : Hid _ := OUT.out A.out
      go_wp2
      go_ret
      exact ⟨-1, rfl, hB0, fun h => by omega, fun h => absurd h Z.out⟩

set_option maxHeartbeats 800000 in
theorem containsHr_any (ha : Option Addr) (hc : Nat) (L : List Hr) (x : Hr) (w : World) (hL : L.length ≤ 9223372036854775807) (hH : HrsAt w ha L) :
    Calls Try.prog 19 #[.slice ha L.length hc, .agg #[.int .i64 x.pl, .bool x.dn, .bool x.on, .bool x.st, .int .i64 x.id]] w fun e w' => e = .returned (.bool (decide (x ∈ L))) ∧ Below w.heap.size w w' := by
  have D : Hid (∀ o1, Calls _ _ _ _ _) := fun o1 => hasHr_any ha hc L x (w.alloc o1) hL (hH.below (one_belowS _ _))
  clear hH
  obtain ⟨R, hR⟩ : ∃ R, decide (x ∈ L) = R := ⟨_, rfl⟩
  have HR : Hid (R = true ↔ x ∈ L) := by show _ ↔ _; rw [← hR]; simp
  rw [hR]
  clear hR
  generalize (x ∈ L) = Q at *
  generalize L.length = n at *
  obtain ⟨xp, xd, xo, xs, xi⟩ := x
  dsimp only at D ⊢
  go_enter Try.func19, Try.ntmps19
  go_wp2_with fail
  refine Calls.mono (D.out _) ?_
  rintro e w1 ⟨r, rfl, hb, hr1⟩
  have HB : Hid (Below w.heap.size w w1) := (one_belowS w _).trans (hb.mono (by simp))
  have HQ : Hid (0 ≤ r ↔ Q) := hr1
  clear hb hr1
  by_cases h : 0 ≤ r
  · have hd : decide (0 ≤ r) = true := decide_eq_true h
    have HT : Hid (R = true) := HR.out.2 (HQ.out.1 h)
    clear h HQ HR
    go_wp2_with fail
    go_ret
    exact ⟨by rw [HT.out]; rfl, HB.out⟩
  · have hd : decide (0 ≤ r) = false := decide_eq_false h
    have HT : Hid (R = false) := by
      show _ = _
      cases R with
      | true => exact absurd (HQ.out.2 (HR.out.1 rfl)) h
      | false => rfl
    clear h HQ HR
    go_wp2_with fail
    go_ret
    exact ⟨by rw [HT.out]; rfl, HB.out⟩
end Go.Proofs.Ytpnhmpmdeoaieaa

namespace Go.Proofs.Ytpnhmpmdeoaieaa
open Go.RowKit
set_option linter.unusedVariables false

abbrev Spot := Int × Bool
def spotV (x : Spot) : Value := .agg #[.int .i64 x.1, .bool x.2]

set_option maxRecDepth 100000 in
theorem check_spot (em : Bool) (x : Spot) (w : World) : (Instr.checkKey em 10000 64 (spotV x)).run Try.prog w = .ok () w := by
  obtain ⟨p, d⟩ := x
  kernel_rfl

set_option maxRecDepth 100000 in
theorem eq_spot (x y : Spot) (w : World) : (Op.equal 64 (spotV x) (spotV y)).run Try.prog w = .ok (x == y) w := by
  obtain ⟨p, d⟩ := x
  obtain ⟨p', d'⟩ := y
  unfold spotV
  have h : (Op.equalIn 10000 64 (.agg #[.int .i64 p, .bool d]) (.agg #[.int .i64 p', .bool d'])).run Try.prog w = .ok (p == p' && d == d') w := by
    go_simp
    by_cases e : p = p'
    · subst e
      cases d <;> cases d' <;> simp
    · simp [e]
  exact h

def entF (off : Nat) : List (Spot × Value) → List MapEntry
  | [] => []
  | (x, v) :: t => ⟨spotV x, v, off⟩ :: entF (off + 1) t
def findF (x : Spot) : List (Spot × Value) → Nat → Option (Nat × Value)
  | [], _ => none
  | (y, v) :: t, i => if x = y then some (i, v) else findF x t (i + 1)
def SpotMap (w : World) (b : Nat) (E : List (Spot × Value)) : Prop := w.heap[b]? = some (.map (entF 0 E).toArray E.length)
def getE (E : List (Spot × Value)) (x : Spot) : Value := ((findF x E 0).map Prod.snd).getD (.slice none 0 0)

theorem ask_spot (x : Spot) (w : World) : ∀ (E : List (Spot × Value)) (off i : Nat), (Instr.findAsking 64 (spotV x) (entF off E) i).run Try.prog w = .ok (findF x E i) w
  | [], off, i => rfl
  | (y, v) :: t, off, i => by
    rw [entF, findF, Instr.findAsking]
    simp only [Sem.run_bind, eq_spot, Result.andThen_ok]
    by_cases e : x = y
    · subst e
      simp
    · have h : (x == y) = false := by simpa using e
      rw [h, if_neg e]
      simpa using ask_spot x w t (off + 1) (i + 1)
theorem find_spot (x : Spot) (E : List (Spot × Value)) (w : World) : (Instr.findKey 64 (spotV x) (entF 0 E)).run Try.prog w = .ok (findF x E 0) w := by
  have h := run_findKey_eq (P := Try.prog) (w := w) (k := 64) (by kernel_rfl) (spotV x) (entF 0 E)
  exact h.trans (ask_spot x w E 0 0)

theorem entF_len : ∀ (E : List (Spot × Value)) (off : Nat), (entF off E).length = E.length
  | [], _ => rfl
  | (x, v) :: t, off => by rw [entF, List.length_cons, entF_len t (off + 1), List.length_cons]
theorem entF_get : ∀ (E : List (Spot × Value)) (off i : Nat) (x : Spot) (v : Value), E[i]? = some (x, v) → (entF off E)[i]? = some ⟨spotV x, v, off + i⟩
  | [], _, _, _, _, h => by simp at h
  | (y, u) :: t, off, 0, x, v, h => by
    simp at h
    obtain ⟨rfl, rfl⟩ := h
    simp [entF]
  | (y, u) :: t, off, i + 1, x, v, h => by
    rw [entF, List.getElem?_cons_succ]
    rw [List.getElem?_cons_succ] at h
    rw [entF_get t (off + 1) i x v h, show off + 1 + i = off + (i + 1) by omega]
theorem entF_snoc : ∀ (E : List (Spot × Value)) (off : Nat) (x : Spot) (v : Value), entF off (E ++ [(x, v)]) = entF off E ++ [⟨spotV x, v, off + E.length⟩]
  | [], off, x, v => by simp [entF]
  | (y, u) :: t, off, x, v => by
    rw [List.cons_append, entF, entF_snoc t (off + 1), entF, List.length_cons, show off + 1 + t.length = off + (t.length + 1) by omega]
    rfl
theorem entF_set : ∀ (E : List (Spot × Value)) (off i : Nat) (x : Spot) (u v : Value), E[i]? = some (x, u) → entF off (E.set i (x, v)) = (entF off E).set i ⟨spotV x, v, off + i⟩
  | [], _, _, _, _, _, h => by simp at h
  | (y, w) :: t, off, 0, x, u, v, h => by
    simp at h
    obtain ⟨rfl, rfl⟩ := h
    simp [entF]
  | (y, w) :: t, off, i + 1, x, u, v, h => by
    rw [List.getElem?_cons_succ] at h
    rw [List.set_cons_succ, entF, entF_set t (off + 1) i x u v h, entF, List.set_cons_succ, show off + 1 + i = off + (i + 1) by omega]
theorem findF_some : ∀ {x : Spot} {E : List (Spot × Value)} {k i : Nat} {v : Value}, findF x E k = some (i, v) → k ≤ i ∧ E[i - k]? = some (x, v)
  | x, [], k, i, v, h => by simp [findF] at h
  | x, (y, u) :: t, k, i, v, h => by
    rw [findF] at h
    by_cases e : x = y
    · rw [if_pos e] at h
      simp at h
      obtain ⟨rfl, rfl⟩ := h
      subst e
      simp
    · rw [if_neg e] at h
      obtain ⟨h1, h2⟩ := findF_some h
      refine ⟨by omega, ?_⟩
      rw [show i - k = (i - (k + 1)) + 1 by omega, List.getElem?_cons_succ]
      exact h2
theorem findF_none : ∀ {x : Spot} {E : List (Spot × Value)} {k : Nat}, findF x E k = none → ∀ y ∈ E, y.1 ≠ x
  | x, [], k, h, y, hy => by simp at hy
  | x, (z, u) :: t, k, h, y, hy => by
    rw [findF] at h
    by_cases e : x = z
    · rw [if_pos e] at h; simp at h
    · rw [if_neg e] at h
      rcases List.mem_cons.1 hy with rfl | hy
      · exact fun e2 => e e2.symm
      · exact findF_none h y hy

/-- The same block, another object in it. -/
def putO (w : World) (b : Nat) (o : Obj) : World := { w with heap := w.heap.setIfInBounds b o }
theorem putO_same {w : World} {b : Nat} {o : Obj} (h : w.heap[b]? = some o) : putO w b o = w := by
  unfold putO
  have hb := (Array.getElem?_eq_some_iff.1 h).1
  have : w.heap.setIfInBounds b o = w.heap := by
    apply Array.ext_getElem?
    intro i
    rw [Array.getElem?_setIfInBounds]
    by_cases e : b = i
    · subst e
      rw [if_pos rfl, if_pos hb, h]
    · rw [if_neg e]
  rw [this]
theorem putO_at {w : World} {b : Nat} {o o' : Obj} (h : w.heap[b]? = some o) : (putO w b o').heap[b]? = some o' := by
  unfold putO
  have hb := (Array.getElem?_eq_some_iff.1 h).1
  simp [hb]
theorem putO_grown (w : World) (b : Nat) (o : Obj) : w.grownBy (putO w b o) (some b) := by
  refine ⟨rfl, rfl, rfl, by simp [putO], fun k _ hne => ?_⟩
  unfold putO
  have : b ≠ k := fun e => hne (by rw [e])
  simp [this]

set_option maxRecDepth 100000 in
theorem look_spot {w : World} {b : Nat} {E : List (Spot × Value)} (h : SpotMap w b E) (x : Spot) : (Instr.lookup 59 (.map (some b)) (spotV x) false).run Try.prog w = .ok (getE E x) w := by
  unfold SpotMap at h
  have hz : (zeroValue 25).run Try.prog w = .ok (.slice none 0 0) w := by kernel_rfl
  unfold Instr.lookup getE
  simp only [Sem.run_bind, run_underlying Try.underlying59, Result.andThen_ok, MapKept.run_getObj_map h, Sem.run_pure, check_spot, find_spot]
  cases findF x E 0 with
  | none => simp [hz]
  | some y => simp

set_option maxRecDepth 100000 in
theorem entry_new {w : World} {b : Nat} {E : List (Spot × Value)} (h : SpotMap w b E) (x : Spot) (hx : findF x E 0 = none) : ∃ w', (Instr.mapEntry 59 (.map (some b)) (spotV x)).run Try.prog w = .ok (.tuple #[.slice none 0 0, goInt E.length]) w' ∧ SpotMap w' b (E ++ [(x, .slice none 0 0)]) ∧ w.grownBy w' (some b) := by
  have hz : (zeroValue 25).run Try.prog w = .ok (.slice none 0 0) w := by kernel_rfl
  refine ⟨putO w b (.map ((entF 0 E).toArray.push ⟨spotV x, .slice none 0 0, E.length⟩) (E.length + 1)), ?_, ?_, putO_grown _ _ _⟩
  · unfold SpotMap at h
    unfold Instr.mapEntry
    simp only [Sem.run_bind, run_underlying Try.underlying59, Result.andThen_ok, MapKept.run_getObj_map h, Sem.run_pure, check_spot, find_spot, hx, hz, MapKept.run_setObj_map _ h]
    rfl
  · show _ = _
    rw [putO_at h, entF_snoc, List.length_append, List.length_singleton]
    simp

set_option maxRecDepth 100000 in
theorem same_spot (x : Spot) : Instr.sameBits 10000 (spotV x) (spotV x) = true := by
  obtain ⟨p, d⟩ := x
  unfold spotV
  simp [Instr.sameBits]

set_option maxRecDepth 100000 in
theorem entry_old {w : World} {b i : Nat} {v : Value} {E : List (Spot × Value)} (h : SpotMap w b E) (x : Spot) (hx : findF x E 0 = some (i, v)) : (Instr.mapEntry 59 (.map (some b)) (spotV x)).run Try.prog w = .ok (.tuple #[v, goInt i]) w := by
  have hg := (findF_some hx).2
  rw [Nat.sub_zero] at hg
  have he := entF_get E 0 i x v hg
  rw [Nat.zero_add] at he
  have he2 : (entF 0 E).toArray[i]? = some ⟨spotV x, v, i⟩ := by simpa using he
  have hmod : (entF 0 E).toArray.modify i (fun e => { e with key := spotV x }) = (entF 0 E).toArray := by
    apply Array.ext_getElem?
    intro j
    rw [Array.getElem?_modify]
    by_cases e : i = j
    · subst e
      rw [if_pos rfl, he2]
      rfl
    · rw [if_neg e]
  unfold SpotMap at h
  unfold Instr.mapEntry
  simp only [Sem.run_bind, run_underlying Try.underlying59, Result.andThen_ok, MapKept.run_getObj_map h, Sem.run_pure, check_spot, find_spot, hx, he2, Option.map_some, Option.getD_some, Instr.keyThatStays, same_spot, if_true, hmod, MapKept.run_setObj_map _ h]
  have := putO_same h
  unfold putO at this
  rw [this]

set_option maxRecDepth 100000 in
theorem entry_store {w : World} {b i : Nat} {u : Value} {E : List (Spot × Value)} (h : SpotMap w b E) (x : Spot) (hx : E[i]? = some (x, u)) (v : Value) : ∃ w', (Instr.entryStore 59 (.map (some b)) (goInt i) v).run Try.prog w = .ok () w' ∧ SpotMap w' b (E.set i (x, v)) ∧ w.grownBy w' (some b) := by
  have he := entF_get E 0 i x u hx
  rw [Nat.zero_add] at he
  have hlt : i < E.length := (List.getElem?_eq_some_iff.1 hx).1
  have hbn : ∀ j (hj : j < (entF 0 E).length), ((entF 0 E)[j]).born = j := fun j hj => by
    rw [entF_len] at hj
    obtain ⟨y, hy⟩ : ∃ y, E[j]? = some y := ⟨E[j], List.getElem?_eq_getElem hj⟩
    have := entF_get E 0 j y.1 y.2 hy
    rw [Nat.zero_add] at this
    rw [(List.getElem?_eq_some_iff.1 this).2]
  have hf : (entF 0 E).toArray.findIdx? (fun e => (e.born : Int) == (i : Int)) = some i := by
    rw [List.findIdx?_toArray, List.findIdx?_eq_some_iff_getElem]
    refine ⟨by rw [entF_len]; exact hlt, by rw [hbn]; simp, fun j hj => ?_⟩
    rw [hbn]
    simp
    omega
  refine ⟨putO w b (.map ((entF 0 E).toArray.modify i fun e => { e with val := v }) E.length), ?_, ?_, putO_grown _ _ _⟩
  · unfold SpotMap at h
    unfold Instr.entryStore
    simp only [Sem.run_bind, Result.andThen_ok, MapKept.run_getObj_map h, Sem.run_pure, goInt, asInt, asIntOf, hf, MapKept.run_setObj_map _ h]
    rfl
  · show _ = _
    rw [putO_at h, entF_set E 0 i x u v hx, List.length_set, Nat.zero_add]
    congr 2
    apply Array.ext_getElem?
    intro j
    rw [Array.getElem?_modify]
    by_cases e : i = j
    · subst e
      have h1 : (entF 0 E).toArray[i]? = some ⟨spotV x, u, i⟩ := by simpa using he
      rw [if_pos rfl, h1]
      simp [entF_len, hlt]
    · rw [if_neg e]
      simp [e]
end Go.Proofs.Ytpnhmpmdeoaieaa
