/-
  Calls in memory; slices.Equal over two rows of calls, of hearers, that read alike.
-/
import Derived.Test.YtkcclfilpchgkaaJRzRvHgHc
import Derived.Laws.StructEq
import Derived.Test.YtkcclfilpchgkaaJHa
import Derived.MapKept
import Derived.WideKeyRuns
namespace Go.Proofs.Ytkcclfilpchgkaa
open Go.RowKit
set_option linter.unusedVariables false

def cal (L : List Cal) (i : Nat) : Cal := L.getD i ⟨0, 0, 0, 0⟩
theorem cal_elem {L : List Cal} {i : Nat} (h : i < L.length) : cal L i = L[i] := by unfold cal; simp [h]
def CalsAt (w : World) (a : Option Addr) (L : List Cal) : Prop :=
  ∀ i, i < L.length → ∃ b o, a = some ⟨b, o, none⟩ ∧ w.cell? ⟨b, o + i * 4, none⟩ = some (.int .i64 (cal L i).id) ∧ w.cell? ⟨b, o + i * 4 + 1, none⟩ = some (.int .i64 (cal L i).pl) ∧ w.cell? ⟨b, o + i * 4 + 2, none⟩ = some (.int .i64 (cal L i).tg) ∧ w.cell? ⟨b, o + i * 4 + 3, none⟩ = some (.int .i64 (cal L i).ph)
theorem CalsAt.below {w w' : World} {a : Option Addr} {L : List Cal} (h : CalsAt w a L) (hb : Below w.heap.size w w') : CalsAt w' a L := fun i hi => by
  obtain ⟨b, o, e, h1, h2, h3, h4⟩ := h i hi
  have hlt : b < w.heap.size := World.block_lt_of_cell? _ _ h1
  exact ⟨b, o, e, (hb.cell (by exact hlt)).trans h1, (hb.cell (by exact hlt)).trans h2, (hb.cell (by exact hlt)).trans h3, (hb.cell (by exact hlt)).trans h4⟩

set_option maxHeartbeats 1000000 in
theorem equalCals_same (a a' : Option Addr) (c c' : Nat) (L : List Cal) (w : World) (hN : L.length ≤ 9223372036854775807) (h1 : CalsAt w a L) (h2 : CalsAt w a' L) :
    Calls Try.prog 11 #[.slice a L.length c, .slice a' L.length c'] w fun e w' => e = .returned (.bool true) ∧ Below w.heap.size w w' := by
  have H1 : Hid (CalsAt w a L) := h1
  have H2 : Hid (CalsAt w a' L) := h2
  clear h1 h2
  obtain ⟨n, hn⟩ : ∃ n, L.length = n := ⟨_, rfl⟩
  have HN : Hid (L.length = n) := hn
  rw [hn] at hN ⊢
  clear hn
  go_enter Try.func11, Try.ntmps11
  go_wp2
  go_loopg [13] n (fun g s13 wr => ∃ k : Nat, k ≤ n ∧ n - k ≤ g ∧ s13 = .int .i64 k ∧ Below w.heap.size w wr)
  case atStart => exact ⟨0, by omega, by omega, rfl, Below.refl _ _⟩
  case round =>
    obtain ⟨k, hk, hg, rfl, hb⟩ := hrel
    by_cases hlt : k < n
    · have hlt2 : (k : Int) < (n : Int) := by omega
      obtain ⟨b, o, rfl, c0, c1, c2, c3⟩ := (H1.out.below hb) k (by rw [HN.out]; exact hlt)
      obtain ⟨b', o', rfl, e0, e1, e2, e3⟩ := (H2.out.below hb) k (by rw [HN.out]; exact hlt)
      generalize cal L k = x at *
      obtain ⟨x0, x1, x2, x3⟩ := x
      dsimp only at c0 c1 c2 c3 e0 e1 e2 e3
      go_wp2_with fail
      go_quiet (fail)
      go_wp2
      go_roundg (n - (k + 1))
      case measure => omega
      case rel => exact ⟨k + 1, by omega, by omega, by go_num, Below.drewNs hb _⟩
    · have : k = n := by omega
      subst this
      go_wp2
      go_ret
      exact ⟨rfl, hb⟩

set_option maxHeartbeats 1000000 in
theorem equalHrs_same (a a' : Option Addr) (c c' : Nat) (L : List Hr) (w : World) (hN : L.length ≤ 9223372036854775807) (h1 : HrsAt w a L) (h2 : HrsAt w a' L) :
    Calls Try.prog 12 #[.slice a L.length c, .slice a' L.length c'] w fun e w' => e = .returned (.bool true) ∧ Below w.heap.size w w' := by
  have H1 : Hid (HrsAt w a L) := h1
  have H2 : Hid (HrsAt w a' L) := h2
  clear h1 h2
  obtain ⟨n, hn⟩ : ∃ n, L.length = n := ⟨_, rfl⟩
  have HN : Hid (L.length = n) := hn
  rw [hn] at hN ⊢
  clear hn
  go_enter Try.func12, Try.ntmps12
  go_wp2
  go_loopg [13] n (fun g s13 wr => ∃ k : Nat, k ≤ n ∧ n - k ≤ g ∧ s13 = .int .i64 k ∧ Below w.heap.size w wr)
  case atStart => exact ⟨0, by omega, by omega, rfl, Below.refl _ _⟩
  case round =>
    obtain ⟨k, hk, hg, rfl, hb⟩ := hrel
    by_cases hlt : k < n
    · have hlt2 : (k : Int) < (n : Int) := by omega
      obtain ⟨b, o, rfl, c0, c1, c2, c3, c4⟩ := (H1.out.below hb) k (by rw [HN.out]; exact hlt)
      obtain ⟨b', o', rfl, e0, e1, e2, e3, e4⟩ := (H2.out.below hb) k (by rw [HN.out]; exact hlt)
      generalize hr L k = x at *
      obtain ⟨x0, x1, x2, x3, x4⟩ := x
      dsimp only at c0 c1 c2 c3 c4 e0 e1 e2 e3 e4
      go_wp2_with fail
      go_quiet (fail)
      go_wp2
      go_roundg (n - (k + 1))
      case measure => omega
      case rel => exact ⟨k + 1, by omega, by omega, by go_num, Below.drewNs hb _⟩
    · have : k = n := by omega
      subst this
      go_wp2
      go_ret
      exact ⟨rfl, hb⟩
end Go.Proofs.Ytkcclfilpchgkaa

namespace Go.Proofs.Ytkcclfilpchgkaa
open Go.RowKit
set_option linter.unusedVariables false

abbrev Spot := Int × Bool
def spotV (x : Spot) : Value := .agg #[.int .i64 x.1, .bool x.2]

set_option maxRecDepth 100000 in
theorem check_spot (em : Bool) (x : Spot) (w : World) : (Instr.checkKey em 10000 64 (spotV x)).run Try.prog w = .ok () w := by
  obtain ⟨p, d⟩ := x
  kernel_rfl

set_option maxRecDepth 100000 in
theorem eq_spot (x y : Spot) (w : World) : (Op.equal 64 (spotV x) (spotV y)).run Try.prog w = .ok (x == y) w := by
  obtain ⟨p, d⟩ := x
  obtain ⟨p', d'⟩ := y
  unfold spotV
  have h : (Op.equalIn 10000 64 (.agg #[.int .i64 p, .bool d]) (.agg #[.int .i64 p', .bool d'])).run Try.prog w = .ok (p == p' && d == d') w := by
    go_simp
    by_cases e : p = p'
    · subst e
      cases d <;> cases d' <;> simp
    · simp [e]
  exact h

def entF (off : Nat) : List (Spot × Value) → List MapEntry
  | [] => []
  | (x, v) :: t => ⟨spotV x, v, off⟩ :: entF (off + 1) t
def findF (x : Spot) : List (Spot × Value) → Nat → Option (Nat × Value)
  | [], _ => none
  | (y, v) :: t, i => if x = y then some (i, v) else findF x t (i + 1)
def SpotMap (w : World) (b : Nat) (E : List (Spot × Value)) : Prop := w.heap[b]? = some (.map (entF 0 E).toArray E.length)
def getE (E : List (Spot × Value)) (x : Spot) : Value := ((findF x E 0).map Prod.snd).getD (.slice none 0 0)

theorem ask_spot (x : Spot) (w : World) : ∀ (E : List (Spot × Value)) (off i : Nat), (Instr.findAsking 64 (spotV x) (entF off E) i).run Try.prog w = .ok (findF x E i) w
  | [], off, i => rfl
  | (y, v) :: t, off, i => by
    rw [entF, findF, Instr.findAsking]
    simp only [Sem.run_bind, eq_spot, Result.andThen_ok]
    by_cases e : x = y
    · subst e
      simp
    · have h : (x == y) = false := by simpa using e
      rw [h, if_neg e]
      simpa using ask_spot x w t (off + 1) (i + 1)
theorem find_spot (x : Spot) (E : List (Spot × Value)) (w : World) : (Instr.findKey 64 (spotV x) (entF 0 E)).run Try.prog w = .ok (findF x E 0) w := by
  have h := run_findKey_eq (P := Try.prog) (w := w) (k := 64) (by kernel_rfl) (spotV x) (entF 0 E)
  exact h.trans (ask_spot x w E 0 0)

theorem entF_len : ∀ (E : List (Spot × Value)) (off : Nat), (entF off E).length = E.length
  | [], _ => rfl
  | (x, v) :: t, off => by rw [entF, List.length_cons, entF_len t (off + 1), List.length_cons]
theorem entF_get : ∀ (E : List (Spot × Value)) (off i : Nat) (x : Spot) (v : Value), E[i]? = some (x, v) → (entF off E)[i]? = some ⟨spotV x, v, off + i⟩
  | [], _, _, _, _, h => by simp at h
  | (y, u) :: t, off, 0, x, v, h => by
    simp at h
    obtain ⟨rfl, rfl⟩ := h
    simp [entF]
  | (y, u) :: t, off, i + 1, x, v, h => by
    rw [entF, List.getElem?_cons_succ]
    rw [List.getElem?_cons_succ] at h
    rw [entF_get t (off + 1) i x v h, show off + 1 + i = off + (i + 1) by omega]
theorem entF_snoc : ∀ (E : List (Spot × Value)) (off : Nat) (x : Spot) (v : Value), entF off (E ++ [(x, v)]) = entF off E ++ [⟨spotV x, v, off + E.length⟩]
  | [], off, x, v => by simp [entF]
  | (y, u) :: t, off, x, v => by
    rw [List.cons_append, entF, entF_snoc t (off + 1), entF, List.length_cons, show off + 1 + t.length = off + (t.length + 1) by omega]
    rfl
theorem entF_set : ∀ (E : List (Spot × Value)) (off i : Nat) (x : Spot) (u v : Value), E[i]? = some (x, u) → entF off (E.set i (x, v)) = (entF off E).set i ⟨spotV x, v, off + i⟩
  | [], _, _, _, _, _, h => by simp at h
  | (y, w) :: t, off, 0, x, u, v, h => by
    simp at h
    obtain ⟨rfl, rfl⟩ := h
    simp [entF]
  | (y, w) :: t, off, i + 1, x, u, v, h => by
    rw [List.getElem?_cons_succ] at h
    rw [List.set_cons_succ, entF, entF_set t (off + 1) i x u v h, entF, List.set_cons_succ, show off + 1 + i = off + (i + 1) by omega]
theorem findF_some : ∀ {x : Spot} {E : List (Spot × Value)} {k i : Nat} {v : Value}, findF x E k = some (i, v) → k ≤ i ∧ E[i - k]? = some (x, v)
  | x, [], k, i, v, h => by simp [findF] at h
  | x, (y, u) :: t, k, i, v, h => by
    rw [findF] at h
    by_cases e : x = y
    · rw [if_pos e] at h
      simp at h
      obtain ⟨rfl, rfl⟩ := h
      subst e
      simp
    · rw [if_neg e] at h
      obtain ⟨h1, h2⟩ := findF_some h
      refine ⟨by omega, ?_⟩
      rw [show i - k = (i - (k + 1)) + 1 by omega, List.getElem?_cons_succ]
      exact h2
theorem findF_none : ∀ {x : Spot} {E : List (Spot × Value)} {k : Nat}, findF x E k = none → ∀ y ∈ E, y.1 ≠ x
  | x, [], k, h, y, hy => by simp at hy
  | x, (z, u) :: t, k, h, y, hy => by
    rw [findF] at h
    by_cases e : x = z
    · rw [if_pos e] at h; simp at h
    · rw [if_neg e] at h
      rcases List.mem_cons.1 hy with rfl | hy
      · exact fun e2 => e e2.symm
      · exact findF_none h y hy

/-- The same block, another object in it. -/
def putO (w : World) (b : Nat) (o : Obj) : World := { w with heap := w.heap.setIfInBounds b o }
theorem putO_same {w : World} {b : Nat} {o : Obj} (h : w.heap[b]? = some o) : putO w b o = w := by
  unfold putO
  have hb := (Array.getElem?_eq_some_iff.1 h).1
  have : w.heap.setIfInBounds b o = w.heap := by
    apply Array.ext_getElem?
    intro i
    rw [Array.getElem?_setIfInBounds]
    by_cases e : b = i
    · subst e
      rw [if_pos rfl, if_pos hb, h]
    · rw [if_neg e]
  rw [this]
theorem putO_at {w : World} {b : Nat} {o o' : Obj} (h : w.heap[b]? = some o) : (putO w b o').heap[b]? = some o' := by
  unfold putO
  have hb := (Array.getElem?_eq_some_iff.1 h).1
  simp [hb]
theorem putO_grown (w : World) (b : Nat) (o : Obj) : w.grownBy (putO w b o) (some b) := by
  refine ⟨rfl, rfl, rfl, by simp [putO], fun k _ hne => ?_⟩
  unfold putO
  have : b ≠ k := fun e => hne (by rw [e])
  simp [this]

set_option maxRecDepth 100000 in
theorem look_spot {w : World} {b : Nat} {E : List (Spot × Value)} (h : SpotMap w b E) (x : Spot) : (Instr.lookup 59 (.map (some b)) (spotV x) false).run Try.prog w = .ok (getE E x) w := by
  unfold SpotMap at h
  have hz : (zeroValue 25).run Try.prog w = .ok (.slice none 0 0) w := by kernel_rfl
  unfold Instr.lookup getE
  simp only [Sem.run_bind, run_underlying Try.underlying59, Result.andThen_ok, MapKept.run_getObj_map h, Sem.run_pure, check_spot, find_spot]
  cases findF x E 0 with
  | none => simp [hz]
  | some y => simp

set_option maxRecDepth 100000 in
theorem entry_new {w : World} {b : Nat} {E : List (Spot × Value)} (h : SpotMap w b E) (x : Spot) (hx : findF x E 0 = none) : ∃ w', (Instr.mapEntry 59 (.map (some b)) (spotV x)).run Try.prog w = .ok (.tuple #[.slice none 0 0, goInt E.length]) w' ∧ SpotMap w' b (E ++ [(x, .slice none 0 0)]) ∧ w.grownBy w' (some b) := by
  have hz : (zeroValue 25).run Try.prog w = .ok (.slice none 0 0) w := by kernel_rfl
  refine ⟨putO w b (.map ((entF 0 E).toArray.push ⟨spotV x, .slice none 0 0, E.length⟩) (E.length + 1)), ?_, ?_, putO_grown _ _ _⟩
  · unfold SpotMap at h
    unfold Instr.mapEntry
    simp only [Sem.run_bind, run_underlying Try.underlying59, Result.andThen_ok, MapKept.run_getObj_map h, Sem.run_pure, check_spot, find_spot, hx, hz, MapKept.run_setObj_map _ h]
    rfl
  · show _ = _
    rw [putO_at h, entF_snoc, List.length_append, List.length_singleton]
    simp

set_option maxRecDepth 100000 in
theorem same_spot (x : Spot) : Instr.sameBits 10000 (spotV x) (spotV x) = true := by
  obtain ⟨p, d⟩ := x
  unfold spotV
  simp [Instr.sameBits]

set_option maxRecDepth 100000 in
theorem entry_old {w : World} {b i : Nat} {v : Value} {E : List (Spot × Value)} (h : SpotMap w b E) (x : Spot) (hx : findF x E 0 = some (i, v)) : (Instr.mapEntry 59 (.map (some b)) (spotV x)).run Try.prog w = .ok (.tuple #[v, goInt i]) w := by
  have hg := (findF_some hx).2
  rw [Nat.sub_zero] at hg
  have he := entF_get E 0 i x v hg
  rw [Nat.zero_add] at he
  have he2 : (entF 0 E).toArray[i]? = some ⟨spotV x, v, i⟩ := by simpa using he
  have hmod : (entF 0 E).toArray.modify i (fun e => { e with key := spotV x }) = (entF 0 E).toArray := by
    apply Array.ext_getElem?
    intro j
    rw [Array.getElem?_modify]
    by_cases e : i = j
    · subst e
      rw [if_pos rfl, he2]
      rfl
    · rw [if_neg e]
  unfold SpotMap at h
  unfold Instr.mapEntry
  simp only [Sem.run_bind, run_underlying Try.underlying59, Result.andThen_ok, MapKept.run_getObj_map h, Sem.run_pure, check_spot, find_spot, hx, he2, Option.map_some, Option.getD_some, Instr.keyThatStays, same_spot, if_true, hmod, MapKept.run_setObj_map _ h]
  have := putO_same h
  unfold putO at this
  rw [this]

set_option maxRecDepth 100000 in
theorem entry_store {w : World} {b i : Nat} {u : Value} {E : List (Spot × Value)} (h : SpotMap w b E) (x : Spot) (hx : E[i]? = some (x, u)) (v : Value) : ∃ w', (Instr.entryStore 59 (.map (some b)) (goInt i) v).run Try.prog w = .ok () w' ∧ SpotMap w' b (E.set i (x, v)) ∧ w.grownBy w' (some b) := by
  have he := entF_get E 0 i x u hx
  rw [Nat.zero_add] at he
  have hlt : i < E.length := (List.getElem?_eq_some_iff.1 hx).1
  have hbn : ∀ j (hj : j < (entF 0 E).length), ((entF 0 E)[j]).born = j := fun j hj => by
    rw [entF_len] at hj
    obtain ⟨y, hy⟩ : ∃ y, E[j]? = some y := ⟨E[j], List.getElem?_eq_getElem hj⟩
    have := entF_get E 0 j y.1 y.2 hy
    rw [Nat.zero_add] at this
    rw [(List.getElem?_eq_some_iff.1 this).2]
  have hf : (entF 0 E).toArray.findIdx? (fun e => (e.born : Int) == (i : Int)) = some i := by
    rw [List.findIdx?_toArray, List.findIdx?_eq_some_iff_getElem]
    refine ⟨by rw [entF_len]; exact hlt, by rw [hbn]; simp, fun j hj => ?_⟩
    rw [hbn]
    simp
    omega
  refine ⟨putO w b (.map ((entF 0 E).toArray.modify i fun e => { e with val := v }) E.length), ?_, ?_, putO_grown _ _ _⟩
  · unfold SpotMap at h
    unfold Instr.entryStore
    simp only [Sem.run_bind, Result.andThen_ok, MapKept.run_getObj_map h, Sem.run_pure, goInt, asInt, asIntOf, hf, MapKept.run_setObj_map _ h]
    rfl
  · show _ = _
    rw [putO_at h, entF_set E 0 i x u v hx, List.length_set, Nat.zero_add]
    congr 2
    apply Array.ext_getElem?
    intro j
    rw [Array.getElem?_modify]
    by_cases e : i = j
    · subst e
      have h1 : (entF 0 E).toArray[i]? = some ⟨spotV x, u, i⟩ := by simpa using he
      rw [if_pos rfl, h1]
      simp [entF_len, hlt]
    · rw [if_neg e]
      simp [e]
end Go.Proofs.Ytkcclfilpchgkaa
