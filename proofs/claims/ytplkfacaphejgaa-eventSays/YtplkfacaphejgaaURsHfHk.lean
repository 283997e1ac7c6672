/-
  What the program and the reference answer alike: Attach, Seen, Path (for ShadowSays).
-/
import Derived.Test.YtplkfacaphejgaaURqZe
import Derived.Test.YtplkfacaphejgaaURrZiZkRzRv
import Derived.Test.YtplkfacaphejgaaUZh
import Derived.Test.YtplkfacaphejgaaUHcNx
import Derived.Laws.StructEq
import Derived.Test.YtplkfacaphejgaaULoHaSe
import Derived.MapKept
import Derived.WideKeyRuns
namespace Go.Proofs.Ytplkfacaphejgaa
open Go.RowKit

theorem tcheck_1h (S : List Nd) (p u : Int) : tcheckE S [(p, u)] = findE S p u := by
  unfold tcheckE findE handsE handsE
  by_cases h : holdsE S p u = 0
  · simp [h]
  · simp [h]

theorem tcheck_two (S : List Nd) (p u q v : Int) : tcheckE S [(p, u), (q, v)] = if findE S p u = 0 then findE S q v else findE S p u := by
  unfold tcheckE findE handsE handsE handsE
  by_cases hc : checkE S = 0
  · simp only [if_pos hc]
    by_cases h : holdsE S p u = 0
    · simp only [if_pos h]
      by_cases h2 : holdsE S q v = 0
      · simp [h2]
      · simp [h2]
    · simp [h]
  · simp [hc]

theorem nds_none (W : World) : NdsAt W none [] := fun _ hi => absurd hi (Nat.not_lt_zero _)

/-- What Attach and Attached answer. -/
abbrev AttAns (f : Nat) (S T : List Nd) (p u : Int) (cl : Bool) (kp ku E : Int) : Prop := ∀ (a : Option Addr) (c : Nat) W, NdsAt W a S →
  Calls Try.prog f #[.agg #[.slice a S.length c], .agg #[.int .i64 p, .int .i64 u], .bool cl] W fun e w' => ∃ a' c', e = .returned (.tuple #[.agg #[.slice a' T.length c'], .agg #[.int .i64 kp, .int .i64 ku], .int .i64 E]) ∧ Below W.heap.size W w' ∧ NdsAt w' a' T

/-- What Seen and SeenFrom answer. -/
abbrev SeenAns (f : Nat) (S : List Nd) (p u q v : Int) (B : Bool) (E : Int) : Prop := ∀ (a : Option Addr) (c : Nat) W, NdsAt W a S →
  Calls Try.prog f #[.agg #[.slice a S.length c], .agg #[.int .i64 p, .int .i64 u], .agg #[.int .i64 q, .int .i64 v]] W fun e w' => e = .returned (.tuple #[.bool B, .int .i64 E]) ∧ Below W.heap.size W w'

set_option maxHeartbeats 1000000 in
theorem path_err (a : Option Addr) (c : Nat) (S : List Nd) (p u E : Int) (w : World) (hN : S.length ≤ 9223372036854775807) (hB : Big S) (hS : NdsAt w a S) (hE : findE S p u = E) (hE0 : E ≠ 0) :
    Calls Try.prog 11 #[.agg #[.slice a S.length c], .agg #[.int .i64 p, .int .i64 u]] w fun e w' => e = .returned (.tuple #[.slice none 0 0, .int .i64 E]) ∧ Below w.heap.size w w' := by
  have D0 : Hid (∀ W, NdsAt W a S → Calls _ _ _ _ _) := fun W hW => find_err a c S p u E W hN hB hW hE hE0
  have HS : Hid (NdsAt w a S) := hS
  have hz0 : (E == 0) = false := by simp [hE0]
  have hz1 : decide (E = 0) = false := decide_eq_false hE0
  clear hS hE hB hN
  generalize S.length = n at *
  go_enter Try.func11, Try.ntmps11
  go_wp2_with fail
  refine Calls.mono (D0.out _ (HS.out.below (two_below _ _ _))) ?_
  rintro e w2 ⟨rfl, hb2⟩
  simp only [World.size_alloc] at hb2
  have HB2 : Hid (Below w.heap.size w w2) := (two_below _ _ _).trans (hb2.mono (by omega))
  clear hb2
  go_wp2_with fail
  refine bodyPost_ret (v := .tuple #[.slice none 0 0, .int .i64 E]) (by simp [results, Try.results11, go_sem]) rfl ⟨rfl, ?_⟩
  first | exact HB2.out | exact HB2.out.alloc HB2.out.size _ | exact (HB2.out.alloc HB2.out.size _).drew

theorem path_all (S : List Nd) (p u : Int) (hN : S.length ≤ 9223372036854775807) (hB : Big S) :
    ∃ L : List Int, L.length ≤ 9223372036854775807 ∧ (findE S p u = 0 → ∃ k : Nat, p = k ∧ k < S.length ∧ L = pathF S k) ∧ (findE S p u ≠ 0 → L = []) ∧
    ∀ (a : Option Addr) (c : Nat) W, NdsAt W a S → Calls Try.prog 11 #[.agg #[.slice a S.length c], .agg #[.int .i64 p, .int .i64 u]] W fun e w' => ∃ a' c', e = .returned (.tuple #[.slice a' L.length c', .int .i64 (findE S p u)]) ∧ Below W.heap.size W w' ∧ IntsAt w' a' L := by
  by_cases hE : findE S p u = 0
  · obtain ⟨wf, k, rfl, hk, _, _⟩ := find_used hE
    refine ⟨pathF S k, by have := path_len S k; have := wf.small; omega, fun _ => ⟨k, rfl, hk, rfl⟩, fun h => absurd hE h, fun a c W hW => ?_⟩
    rw [hE]
    refine (path_ok a c S k u W wf hW hk hE).mono (fun e w' ⟨v, e1, hb, ho⟩ => ?_)
    obtain ⟨pa, pc, rfl, hi, _⟩ := own_slice ho
    exact ⟨pa, pc, e1, hb, hi⟩
  · exact ⟨[], by simp, fun h => absurd h hE, fun _ => rfl, fun a c W hW => (path_err a c S p u _ W hN hB hW rfl hE).mono (fun e w' ⟨e1, hb⟩ => ⟨none, 0, e1, hb, fun i hi => absurd hi (Nat.not_lt_zero _)⟩)⟩

/-- Is a place in use? (Of any number.) -/
def usedB (S : List Nd) (q : Int) : Bool := isPl S.length q && (nd S q.toNat).u

end Go.Proofs.Ytplkfacaphejgaa

namespace Go.Proofs.Ytplkfacaphejgaa
open Go.RowKit
set_option linter.unusedVariables false

def cal (L : List Cal) (i : Nat) : Cal := L.getD i ⟨0, 0, 0, 0⟩
theorem cal_elem {L : List Cal} {i : Nat} (h : i < L.length) : cal L i = L[i] := by unfold cal; simp [h]
def CalsAt (w : World) (a : Option Addr) (L : List Cal) : Prop :=
  ∀ i, i < L.length → ∃ b o, a = some ⟨b, o, none⟩ ∧ w.cell? ⟨b, o + i * 4, none⟩ = some (.int .i64 (cal L i).id) ∧ w.cell? ⟨b, o + i * 4 + 1, none⟩ = some (.int .i64 (cal L i).pl) ∧ w.cell? ⟨b, o + i * 4 + 2, none⟩ = some (.int .i64 (cal L i).tg) ∧ w.cell? ⟨b, o + i * 4 + 3, none⟩ = some (.int .i64 (cal L i).ph)
theorem CalsAt.below {w w' : World} {a : Option Addr} {L : List Cal} (h : CalsAt w a L) (hb : Below w.heap.size w w') : CalsAt w' a L := fun i hi => by
  obtain ⟨b, o, e, h1, h2, h3, h4⟩ := h i hi
  have hlt : b < w.heap.size := World.block_lt_of_cell? _ _ h1
  exact ⟨b, o, e, (hb.cell (by exact hlt)).trans h1, (hb.cell (by exact hlt)).trans h2, (hb.cell (by exact hlt)).trans h3, (hb.cell (by exact hlt)).trans h4⟩

set_option maxHeartbeats 1000000 in
theorem equalCals_same (a a' : Option Addr) (c c' : Nat) (L : List Cal) (w : World) (hN : L.length ≤ 9223372036854775807) (h1 : CalsAt w a L) (h2 : CalsAt w a' L) :
    Calls Try.prog 9 #[.slice a L.length c, .slice a' L.length c'] w fun e w' => e = .returned (.bool true) ∧ Below w.heap.size w w' := by
  have H1 : Hid (CalsAt w a L) := h1
  have H2 : Hid (CalsAt w a' L) := h2
  clear h1 h2
  obtain ⟨n, hn⟩ : ∃ n, L.length = n := ⟨_, rfl⟩
  have HN : Hid (L.length = n) := hn
  rw [hn] at hN ⊢
  clear hn
  go_enter Try.func9, Try.ntmps9
  go_wp2
  go_loopg [13] n (fun g s13 wr => ∃ k : Nat, k ≤ n ∧ n - k ≤ g ∧ s13 = .int .i64 k ∧ Below w.heap.size w wr)
  case atStart => exact ⟨0, by omega, by omega, rfl, Below.refl _ _⟩
  case round =>
    obtain ⟨k, hk, hg, rfl, hb⟩ := hrel
    by_cases hlt : k < n
    · have hlt2 : (k : Int) < (n : Int) := by omega
      obtain ⟨b, o, rfl, c0, c1, c2, c3⟩ := (H1.out.below hb) k (by rw [HN.out]; exact hlt)
      obtain ⟨b', o', rfl, e0, e1, e2, e3⟩ := (H2.out.below hb) k (by rw [HN.out]; exact hlt)
      generalize cal L k = x at *
      obtain ⟨x0, x1, x2, x3⟩ := x
      dsimp only at c0 c1 c2 c3 e0 e1 e2 e3
      go_wp2_with fail
      go_quiet (fail)
      go_wp2
      go_roundg (n - (k + 1))
      case measure => omega
      case rel => exact ⟨k + 1, by omega, by omega, by go_num, Below.drewNs hb _⟩
    · have : k = n := by omega
      subst this
      go_wp2
      go_ret
      exact ⟨rfl, hb⟩

set_option maxHeartbeats 1000000 in
theorem equalHrs_same (a a' : Option Addr) (c c' : Nat) (L : List Hr) (w : World) (hN : L.length ≤ 9223372036854775807) (h1 : HrsAt w a L) (h2 : HrsAt w a' L) :
    Calls Try.prog 10 #[.slice a L.length c, .slice a' L.length c'] w fun e w' => e = .returned (.bool true) ∧ Below w.heap.size w w' := by
  have H1 : Hid (HrsAt w a L) := h1
  have H2 : Hid (HrsAt w a' L) := h2
  clear h1 h2
  obtain ⟨n, hn⟩ : ∃ n, L.length = n := ⟨_, rfl⟩
  have HN : Hid (L.length = n) := hn
  rw [hn] at hN ⊢
  clear hn
  go_enter Try.func10, Try.ntmps10
  go_wp2
  go_loopg [13] n (fun g s13 wr => ∃ k : Nat, k ≤ n ∧ n - k ≤ g ∧ s13 = .int .i64 k ∧ Below w.heap.size w wr)
  case atStart => exact ⟨0, by omega, by omega, rfl, Below.refl _ _⟩
  case round =>
    obtain ⟨k, hk, hg, rfl, hb⟩ := hrel
    by_cases hlt : k < n
    · have hlt2 : (k : Int) < (n : Int) := by omega
      obtain ⟨b, o, rfl, c0, c1, c2, c3, c4⟩ := (H1.out.below hb) k (by rw [HN.out]; exact hlt)
      obtain ⟨b', o', rfl, e0, e1, e2, e3, e4⟩ := (H2.out.below hb) k (by rw [HN.out]; exact hlt)
      generalize hr L k = x at *
      obtain ⟨x0, x1, x2, x3, x4⟩ := x
      dsimp only at c0 c1 c2 c3 c4 e0 e1 e2 e3 e4
      go_wp2_with fail
      go_quiet (fail)
      go_wp2
      go_roundg (n - (k + 1))
      case measure => omega
      case rel => exact ⟨k + 1, by omega, by omega, by go_num, Below.drewNs hb _⟩
    · have : k = n := by omega
      subst this
      go_wp2
      go_ret
      exact ⟨rfl, hb⟩
end Go.Proofs.Ytplkfacaphejgaa

namespace Go.Proofs.Ytplkfacaphejgaa
open Go.RowKit
set_option linter.unusedVariables false

abbrev Spot := Int × Bool
def spotV (x : Spot) : Value := .agg #[.int .i64 x.1, .bool x.2]

set_option maxRecDepth 100000 in
theorem check_spot (em : Bool) (x : Spot) (w : World) : (Instr.checkKey em 10000 49 (spotV x)).run Try.prog w = .ok () w := by
  obtain ⟨p, d⟩ := x
  kernel_rfl

set_option maxRecDepth 100000 in
theorem eq_spot (x y : Spot) (w : World) : (Op.equal 49 (spotV x) (spotV y)).run Try.prog w = .ok (x == y) w := by
  obtain ⟨p, d⟩ := x
  obtain ⟨p', d'⟩ := y
  unfold spotV
  have h : (Op.equalIn 10000 49 (.agg #[.int .i64 p, .bool d]) (.agg #[.int .i64 p', .bool d'])).run Try.prog w = .ok (p == p' && d == d') w := by
    go_simp
    by_cases e : p = p'
    · subst e
      cases d <;> cases d' <;> simp
    · simp [e]
  exact h

def entF (off : Nat) : List (Spot × Value) → List MapEntry
  | [] => []
  | (x, v) :: t => ⟨spotV x, v, off⟩ :: entF (off + 1) t
def findF (x : Spot) : List (Spot × Value) → Nat → Option (Nat × Value)
  | [], _ => none
  | (y, v) :: t, i => if x = y then some (i, v) else findF x t (i + 1)
def SpotMap (w : World) (b : Nat) (E : List (Spot × Value)) : Prop := w.heap[b]? = some (.map (entF 0 E).toArray E.length)
def getE (E : List (Spot × Value)) (x : Spot) : Value := ((findF x E 0).map Prod.snd).getD (.slice none 0 0)

theorem ask_spot (x : Spot) (w : World) : ∀ (E : List (Spot × Value)) (off i : Nat), (Instr.findAsking 49 (spotV x) (entF off E) i).run Try.prog w = .ok (findF x E i) w
  | [], off, i => rfl
  | (y, v) :: t, off, i => by
    rw [entF, findF, Instr.findAsking]
    simp only [Sem.run_bind, eq_spot, Result.andThen_ok]
    by_cases e : x = y
    · subst e
      simp
    · have h : (x == y) = false := by simpa using e
      rw [h, if_neg e]
      simpa using ask_spot x w t (off + 1) (i + 1)
theorem find_spot (x : Spot) (E : List (Spot × Value)) (w : World) : (Instr.findKey 49 (spotV x) (entF 0 E)).run Try.prog w = .ok (findF x E 0) w := by
  have h := run_findKey_eq (P := Try.prog) (w := w) (k := 49) (by kernel_rfl) (spotV x) (entF 0 E)
  exact h.trans (ask_spot x w E 0 0)

theorem entF_len : ∀ (E : List (Spot × Value)) (off : Nat), (entF off E).length = E.length
  | [], _ => rfl
  | (x, v) :: t, off => by rw [entF, List.length_cons, entF_len t (off + 1), List.length_cons]
theorem entF_get : ∀ (E : List (Spot × Value)) (off i : Nat) (x : Spot) (v : Value), E[i]? = some (x, v) → (entF off E)[i]? = some ⟨spotV x, v, off + i⟩
  | [], _, _, _, _, h => by simp at h
  | (y, u) :: t, off, 0, x, v, h => by
    simp at h
    obtain ⟨rfl, rfl⟩ := h
    simp [entF]
  | (y, u) :: t, off, i + 1, x, v, h => by
    rw [entF, List.getElem?_cons_succ]
    rw [List.getElem?_cons_succ] at h
    rw [entF_get t (off + 1) i x v h, show off + 1 + i = off + (i + 1) by omega]
theorem entF_snoc : ∀ (E : List (Spot × Value)) (off : Nat) (x : Spot) (v : Value), entF off (E ++ [(x, v)]) = entF off E ++ [⟨spotV x, v, off + E.length⟩]
  | [], off, x, v => by simp [entF]
  | (y, u) :: t, off, x, v => by
    rw [List.cons_append, entF, entF_snoc t (off + 1), entF, List.length_cons, show off + 1 + t.length = off + (t.length + 1) by omega]
    rfl
theorem entF_set : ∀ (E : List (Spot × Value)) (off i : Nat) (x : Spot) (u v : Value), E[i]? = some (x, u) → entF off (E.set i (x, v)) = (entF off E).set i ⟨spotV x, v, off + i⟩
  | [], _, _, _, _, _, h => by simp at h
  | (y, w) :: t, off, 0, x, u, v, h => by
    simp at h
    obtain ⟨rfl, rfl⟩ := h
    simp [entF]
  | (y, w) :: t, off, i + 1, x, u, v, h => by
    rw [List.getElem?_cons_succ] at h
    rw [List.set_cons_succ, entF, entF_set t (off + 1) i x u v h, entF, List.set_cons_succ, show off + 1 + i = off + (i + 1) by omega]
theorem findF_some : ∀ {x : Spot} {E : List (Spot × Value)} {k i : Nat} {v : Value}, findF x E k = some (i, v) → k ≤ i ∧ E[i - k]? = some (x, v)
  | x, [], k, i, v, h => by simp [findF] at h
  | x, (y, u) :: t, k, i, v, h => by
    rw [findF] at h
    by_cases e : x = y
    · rw [if_pos e] at h
      simp at h
      obtain ⟨rfl, rfl⟩ := h
      subst e
      simp
    · rw [if_neg e] at h
      obtain ⟨h1, h2⟩ := findF_some h
      refine ⟨by omega, ?_⟩
      rw [show i - k = (i - (k + 1)) + 1 by omega, List.getElem?_cons_succ]
      exact h2
theorem findF_none : ∀ {x : Spot} {E : List (Spot × Value)} {k : Nat}, findF x E k = none → ∀ y ∈ E, y.1 ≠ x
  | x, [], k, h, y, hy => by simp at hy
  | x, (z, u) :: t, k, h, y, hy => by
    rw [findF] at h
    by_cases e : x = z
    · rw [if_pos e] at h; simp at h
    · rw [if_neg e] at h
      rcases List.mem_cons.1 hy with rfl | hy
      · exact fun e2 => e e2.symm
      · exact findF_none h y hy

/-- The same block, another object in it. -/
def putO (w : World) (b : Nat) (o : Obj) : World := { w with heap := w.heap.setIfInBounds b o }
theorem putO_same {w : World} {b : Nat} {o : Obj} (h : w.heap[b]? = some o) : putO w b o = w := by
  unfold putO
  have hb := (Array.getElem?_eq_some_iff.1 h).1
  have : w.heap.setIfInBounds b o = w.heap := by
    apply Array.ext_getElem?
    intro i
    rw [Array.getElem?_setIfInBounds]
    by_cases e : b = i
    · subst e
      rw [if_pos rfl, if_pos hb, h]
    · rw [if_neg e]
  rw [this]
theorem putO_at {w : World} {b : Nat} {o o' : Obj} (h : w.heap[b]? = some o) : (putO w b o').heap[b]? = some o' := by
  unfold putO
  have hb := (Array.getElem?_eq_some_iff.1 h).1
  simp [hb]
theorem putO_grown (w : World) (b : Nat) (o : Obj) : w.grownBy (putO w b o) (some b) := by
  refine ⟨rfl, rfl, rfl, by simp [putO], fun k _ hne => ?_⟩
  unfold putO
  have : b ≠ k := fun e => hne (by rw [e])
  simp [this]

set_option maxRecDepth 100000 in
theorem look_spot {w : World} {b : Nat} {E : List (Spot × Value)} (h : SpotMap w b E) (x : Spot) : (Instr.lookup 44 (.map (some b)) (spotV x) false).run Try.prog w = .ok (getE E x) w := by
  unfold SpotMap at h
  have hz : (zeroValue 25).run Try.prog w = .ok (.slice none 0 0) w := by kernel_rfl
  unfold Instr.lookup getE
  simp only [Sem.run_bind, run_underlying Try.underlying44, Result.andThen_ok, MapKept.run_getObj_map h, Sem.run_pure, check_spot, find_spot]
  cases findF x E 0 with
  | none => simp [hz]
  | some y => simp

set_option maxRecDepth 100000 in
theorem entry_new {w : World} {b : Nat} {E : List (Spot × Value)} (h : SpotMap w b E) (x : Spot) (hx : findF x E 0 = none) : ∃ w', (Instr.mapEntry 44 (.map (some b)) (spotV x)).run Try.prog w = .ok (.tuple #[.slice none 0 0, goInt E.length]) w' ∧ SpotMap w' b (E ++ [(x, .slice none 0 0)]) ∧ w.grownBy w' (some b) := by
  have hz : (zeroValue 25).run Try.prog w = .ok (.slice none 0 0) w := by kernel_rfl
  refine ⟨putO w b (.map ((entF 0 E).toArray.push ⟨spotV x, .slice none 0 0, E.length⟩) (E.length + 1)), ?_, ?_, putO_grown _ _ _⟩
  · unfold SpotMap at h
    unfold Instr.mapEntry
    simp only [Sem.run_bind, run_underlying Try.underlying44, Result.andThen_ok, MapKept.run_getObj_map h, Sem.run_pure, check_spot, find_spot, hx, hz, MapKept.run_setObj_map _ h]
    rfl
  · show _ = _
    rw [putO_at h, entF_snoc, List.length_append, List.length_singleton]
    simp

set_option maxRecDepth 100000 in
theorem same_spot (x : Spot) : Instr.sameBits 10000 (spotV x) (spotV x) = true := by
  obtain ⟨p, d⟩ := x
  unfold spotV
  simp [Instr.sameBits]

set_option maxRecDepth 100000 in
theorem entry_old {w : World} {b i : Nat} {v : Value} {E : List (Spot × Value)} (h : SpotMap w b E) (x : Spot) (hx : findF x E 0 = some (i, v)) : (Instr.mapEntry 44 (.map (some b)) (spotV x)).run Try.prog w = .ok (.tuple #[v, goInt i]) w := by
  have hg := (findF_some hx).2
  rw [Nat.sub_zero] at hg
  have he := entF_get E 0 i x v hg
  rw [Nat.zero_add] at he
  have he2 : (entF 0 E).toArray[i]? = some ⟨spotV x, v, i⟩ := by simpa using he
  have hmod : (entF 0 E).toArray.modify i (fun e => { e with key := spotV x }) = (entF 0 E).toArray := by
    apply Array.ext_getElem?
    intro j
    rw [Array.getElem?_modify]
    by_cases e : i = j
    · subst e
      rw [if_pos rfl, he2]
      rfl
    · rw [if_neg e]
  unfold SpotMap at h
  unfold Instr.mapEntry
  simp only [Sem.run_bind, run_underlying Try.underlying44, Result.andThen_ok, MapKept.run_getObj_map h, Sem.run_pure, check_spot, find_spot, hx, he2, Option.map_some, Option.getD_some, Instr.keyThatStays, same_spot, if_true, hmod, MapKept.run_setObj_map _ h]
  have := putO_same h
  unfold putO at this
  rw [this]

set_option maxRecDepth 100000 in
theorem entry_store {w : World} {b i : Nat} {u : Value} {E : List (Spot × Value)} (h : SpotMap w b E) (x : Spot) (hx : E[i]? = some (x, u)) (v : Value) : ∃ w', (Instr.entryStore 44 (.map (some b)) (goInt i) v).run Try.prog w = .ok () w' ∧ SpotMap w' b (E.set i (x, v)) ∧ w.grownBy w' (some b) := by
  have he := entF_get E 0 i x u hx
  rw [Nat.zero_add] at he
  have hlt : i < E.length := (List.getElem?_eq_some_iff.1 hx).1
  have hbn : ∀ j (hj : j < (entF 0 E).length), ((entF 0 E)[j]).born = j := fun j hj => by
    rw [entF_len] at hj
    obtain ⟨y, hy⟩ : ∃ y, E[j]? = some y := ⟨E[j], List.getElem?_eq_getElem hj⟩
    have := entF_get E 0 j y.1 y.2 hy
    rw [Nat.zero_add] at this
    rw [(List.getElem?_eq_some_iff.1 this).2]
  have hf : (entF 0 E).toArray.findIdx? (fun e => (e.born : Int) == (i : Int)) = some i := by
    rw [List.findIdx?_toArray, List.findIdx?_eq_some_iff_getElem]
    refine ⟨by rw [entF_len]; exact hlt, by rw [hbn]; simp, fun j hj => ?_⟩
    rw [hbn]
    simp
    omega
  refine ⟨putO w b (.map ((entF 0 E).toArray.modify i fun e => { e with val := v }) E.length), ?_, ?_, putO_grown _ _ _⟩
  · unfold SpotMap at h
    unfold Instr.entryStore
    simp only [Sem.run_bind, Result.andThen_ok, MapKept.run_getObj_map h, Sem.run_pure, goInt, asInt, asIntOf, hf, MapKept.run_setObj_map _ h]
    rfl
  · show _ = _
    rw [putO_at h, entF_set E 0 i x u v hx, List.length_set, Nat.zero_add]
    congr 2
    apply Array.ext_getElem?
    intro j
    rw [Array.getElem?_modify]
    by_cases e : i = j
    · subst e
      have h1 : (entF 0 E).toArray[i]? = some ⟨spotV x, u, i⟩ := by simpa using he
      rw [if_pos rfl, h1]
      simp [entF_len, hlt]
    · rw [if_neg e]
      simp [e]
end Go.Proofs.Ytplkfacaphejgaa
