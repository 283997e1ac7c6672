/-
  A map[int]bool that the call has made, as a function of numbers: made, looked up, written.
-/
import Derived.Test.YtebhlcjljdgnkaaProg
import Derived.Maps.OwnOps
import Derived.Maps.Views
import Derived.Test.YtebhlcjljdgnkaaUNaSd
namespace Go.Proofs.Ytebhlcjljdgnkaa
open Go.ChangeShapes Go.WideShapes

set_option maxRecDepth 100000 in
theorem zeroBool (w : World) : (zeroValue 4).run Try.prog w = .ok (.bool false) w := by kernel_rfl

/-- Block b is a map of at most n entries that says f of every int. -/
def MarksAt (w : World) (b n : Nat) (f : Int → Bool) : Prop :=
  ∃ D : DataW Unit, w.ownsMap Try.prog 3 (plainElem Try.prog 4) b n D ∧ Maps.IsMap D ∧ ∀ k : Int, (Lit.int .i64 k).wf = true → D.atKey (.int .i64 k) (.lit (.bool false)) = .lit (.bool (f k))

theorem MarksAt.made (w : World) : MarksAt (w.alloc (.map #[] 0)) w.heap.size 0 (fun _ => false) :=
  ⟨.map [], World.ownsMap_made w _ _ _, Maps.isMap_empty, fun _ _ => rfl⟩

theorem MarksAt.lt {w : World} {b n : Nat} {f : Int → Bool} (h : MarksAt w b n f) : b < w.heap.size := let ⟨_, h1, _⟩ := h; h1.lt

theorem MarksAt.kept {w w' : World} {b n : Nat} {f : Int → Bool} (h : MarksAt w b n f) (e : w'.heap[b]? = w.heap[b]?) : MarksAt w' b n f := by
  obtain ⟨D, ⟨es, clock, hb, F, hs, hD⟩, h2⟩ := h
  exact ⟨D, ⟨es, clock, e.trans hb, F, hs, hD⟩, h2⟩

theorem plainElem_bool_inv {P : Program} {e : TypeId} (he : P.underlying e = some .bool) {v : Value} {z : DataW Unit × List MemPlace} (h : plainElem P e v = some z) : ∃ x, v = .bool x ∧ z = (.lit (.bool x), []) := by
  unfold plainElem at h
  rw [he] at h
  cases v <;> simp at h
  exact ⟨_, rfl, h.symm⟩

theorem MarksAt.look {w : World} {b n : Nat} {f : Int → Bool} (h : MarksAt w b n f) {t : TypeId} (ht : Try.prog.underlying t = some (.map 3 4)) {k : Int} (hk : (Lit.int .i64 k).wf = true) :
    (Instr.lookup t (.map (some b)) (.int .i64 k) false).run Try.prog w = .ok (.bool (f k)) w := by
  obtain ⟨D, h1, _, h3⟩ := h
  obtain ⟨v, ps, hrun, hv⟩ := h1.lookup (Maps.int_keyed Try.underlying3) ht (zeroBool w) (plainElem_bool Try.underlying4 false) (Maps.keyOf_int_mk Try.underlying3 hk)
  obtain ⟨x, rfl, e⟩ := plainElem_bool_inv Try.underlying4 hv
  rw [h3 k hk] at e
  cases e
  exact hrun

theorem MarksAt.put {w : World} {b n : Nat} {f : Int → Bool} (h : MarksAt w b n f) {t : TypeId} (ht : Try.prog.underlying t = some (.map 3 4)) (hn : n < maxLen) {k : Int} (hk : (Lit.int .i64 k).wf = true) (v : Bool) :
    ∃ w', (Instr.mapUpdate t (.map (some b)) (.int .i64 k) (.bool v)).run Try.prog w = .ok () w' ∧ MarksAt w' b (n + 1) (fun j => if j = k then v else f j) ∧ w.grownBy w' (some b) := by
  obtain ⟨D, h1, h2, h3⟩ := h
  obtain ⟨w', hrun, h4, h5⟩ := h1.update (Maps.int_keyed Try.underlying3) ht hn (Maps.keyOf_int_mk Try.underlying3 hk) (plainElem_bool Try.underlying4 v)
  refine ⟨w', hrun, ⟨_, h4, h2.put _ _, fun j hj => ?_⟩, h5⟩
  by_cases e : j = k
  · subst e
    simp only [if_true]
    exact Maps.atKey_put_same (k := .int .i64 j) h2 (show WideAt.IsKeyLit (.int .i64 j) from trivial) _ _
  · simp only [if_neg e]
    rw [Maps.atKey_put_other (by intro e2; cases e2; exact e rfl)]
    exact h3 j hj

/-- 'm[k]' in the walk. -/
theorem wpList_look_marks (w : World) {ops : Array Oper} {rest : List Oper} {o : Oper} {a : Act} {Q : Exit → Act → World → Prop} (hg : o.guard = none) (m x : Operand) (t : TypeId) (hop : o.op = Op.lookup t m x false)
    (ht : Try.prog.underlying t = some (.map 3 4)) (b n : Nat) (f : Int → Bool) (hm : a.eval m = .map (some b)) (h : MarksAt w b n f) (k : Int) (hx : a.eval x = .int .i64 k) (hk : (Lit.int .i64 k).wf = true)
    (hK : wpList Try.prog ops Q rest (a.put o.dst (.bool (f k))) w) : wpList Try.prog ops Q (o :: rest) a w := by
  refine wpList_plain hg fun K' hK' => ?_
  unfold Oper.wp
  simp [execOp, hop, hm, hx, h.look ht hk, Result.andThen]
  exact hK' _ _ hK

/-- 'm[k] = v' in the walk. -/
theorem wpList_put_marks (w : World) {ops : Array Oper} {rest : List Oper} {o : Oper} {a : Act} {Q : Exit → Act → World → Prop} (hg : o.guard = none) (m x y : Operand) (t : TypeId) (hop : o.op = Op.mapUpdate t m x y)
    (ht : Try.prog.underlying t = some (.map 3 4)) (b n : Nat) (f : Int → Bool) (hm : a.eval m = .map (some b)) (h : MarksAt w b n f) (hn : n < maxLen) (k : Int) (v : Bool) (hx : a.eval x = .int .i64 k) (hy : a.eval y = .bool v) (hk : (Lit.int .i64 k).wf = true)
    (hK : ∀ w', MarksAt w' b (n + 1) (fun j => if j = k then v else f j) → w.grownBy w' (some b) → wpList Try.prog ops Q rest (a.put o.dst undef) w') : wpList Try.prog ops Q (o :: rest) a w := by
  refine wpList_plain hg fun K' hK' => ?_
  obtain ⟨w', hrun, h1, h2⟩ := h.put ht hn hk v
  unfold Oper.wp
  simp [execOp, hop, hm, hx, hy, hrun, Result.andThen]
  exact hK' _ _ (hK w' h1 h2)
end Go.Proofs.Ytebhlcjljdgnkaa

namespace Go.Proofs.Ytebhlcjljdgnkaa
open Go.RowKit

def nd (S : List Nd) (i : Nat) : Nd := S.getD i zeroNd

def NdAt (w : World) (b o : Nat) (x : Nd) : Prop :=
  w.cell? ⟨b, o, none⟩ = some (.bool x.u) ∧ w.cell? ⟨b, o + 1, none⟩ = some (.int .i64 x.n) ∧ w.cell? ⟨b, o + 2, none⟩ = some (.int .i64 x.t) ∧ w.cell? ⟨b, o + 3, none⟩ = some (.int .i64 x.m) ∧
  w.cell? ⟨b, o + 4, none⟩ = some (.int .i64 x.p) ∧ (∃ ka kc, w.cell? ⟨b, o + 5, none⟩ = some (.slice ka x.ks.length kc) ∧ IntsAt w ka x.ks) ∧ w.cell? ⟨b, o + 6, none⟩ = some (.int .i64 x.h) ∧ w.cell? ⟨b, o + 7, none⟩ = some (.bool x.c)

theorem NdAt.below {w w' : World} {b o : Nat} {x : Nd} (h : NdAt w b o x) (hb : Below w.heap.size w w') : NdAt w' b o x := by
  obtain ⟨c0, c1, c2, c3, c4, ⟨ka, kc, c5, hk⟩, c6, c7⟩ := h
  have hlt : b < w.heap.size := World.block_lt_of_cell? w ⟨b, o, none⟩ c0
  exact ⟨(hb.cell hlt).trans c0, (hb.cell hlt).trans c1, (hb.cell hlt).trans c2, (hb.cell hlt).trans c3, (hb.cell hlt).trans c4, ⟨ka, kc, (hb.cell hlt).trans c5, hk.below hb⟩, (hb.cell hlt).trans c6, (hb.cell hlt).trans c7⟩

/-- A slice of nodes: its length is the list's; where it has any, it leads to their cells. -/
def NdsAt (w : World) (a : Option Addr) (S : List Nd) : Prop :=
  ∀ i, i < S.length → ∃ b o, a = some ⟨b, o, none⟩ ∧ NdAt w b (o + i * 8) (nd S i)

theorem NdsAt.below {w w' : World} {a : Option Addr} {S : List Nd} (h : NdsAt w a S) (hb : Below w.heap.size w w') : NdsAt w' a S := fun i hi => by
  obtain ⟨b, o, e, hn⟩ := h i hi
  exact ⟨b, o, e, hn.below hb⟩

/-- No list of children is longer than a slice can be. -/
def Big (S : List Nd) : Prop := ∀ i, i < S.length → (nd S i).ks.length ≤ 9223372036854775807

def FitK (S : List Nd) (i : Nat) (x : Int) : Prop := x ≠ -1 ∧ (nd S x.toNat).u = true ∧ (nd S x.toNat).p = i
def FitU (S : List Nd) (k : Nat) : Prop := ∀ i, i < k → ∀ x ∈ (nd S i).ks, FitK S i x
def cntU (S : List Nd) (k j : Nat) : Nat := ((S.take k).flatMap Nd.ks).count (j : Int)
def cntK (l : List Int) (q j : Nat) : Nat := (l.take q).count (j : Int)
def KidsOk (S : List Nd) : Prop := FitU S S.length ∧ ∀ j, j < S.length → cntU S S.length j ≤ 1 ∧ ((nd S j).p ≠ -1 → cntU S S.length j ≠ 0)

theorem nd_elem {S : List Nd} {i : Nat} (h : i < S.length) : nd S i = S[i] := getD_elem S zeroNd h

theorem cntU_zero (S : List Nd) (j : Nat) : cntU S 0 j = 0 := by simp [cntU]
theorem cntU_succ (S : List Nd) (k j : Nat) (h : k < S.length) : cntU S (k + 1) j = cntU S k j + (nd S k).ks.count (j : Int) := by
  unfold cntU
  rw [List.take_succ_eq_append_getElem h, List.flatMap_append, List.count_append, nd_elem h]
  simp
theorem cntK_zero (l : List Int) (j : Nat) : cntK l 0 j = 0 := by simp [cntK]
theorem cntK_all (l : List Int) (j : Nat) : cntK l l.length j = l.count (j : Int) := by simp [cntK]
theorem cntK_succ (l : List Int) (q j : Nat) (h : q < l.length) : cntK l (q + 1) j = cntK l q j + (if l.getD q 0 = (j : Int) then 1 else 0) := by
  unfold cntK
  rw [List.take_succ_eq_append_getElem h, List.count_append, getD_elem l 0 h]
  by_cases e : l[q] = (j : Int) <;> simp [e]
theorem cntK_le (l : List Int) (q j : Nat) : cntK l q j ≤ q := by
  unfold cntK
  exact Nat.le_trans List.count_le_length (by rw [List.length_take]; omega)

theorem cntU_other (S : List Nd) (k j : Nat) (hk : k ≤ S.length) (hF : FitU S k) (hp : (nd S j).p = k) : cntU S k j = 0 := by
  unfold cntU
  rw [List.count_eq_zero]
  intro hm
  obtain ⟨y, hy, hj⟩ := List.mem_flatMap.1 hm
  obtain ⟨i, hi, rfl⟩ := List.getElem_of_mem hy
  rw [List.length_take] at hi
  have h3 := hF i (by omega) (j : Int) (by rw [nd_elem (by omega)]; simpa using hj)
  have := h3.2.2
  simp only [Int.toNat_natCast] at this
  omega
end Go.Proofs.Ytebhlcjljdgnkaa
