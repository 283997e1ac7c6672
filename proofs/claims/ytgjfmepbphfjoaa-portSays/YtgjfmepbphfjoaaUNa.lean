/-
  A map that the call has made, whatever its elements are: as a function of its keys.
-/
import Derived.Maps.OwnSet
import Derived.Maps.OwnOps
import Derived.Maps.Views
namespace Go.Proofs.Ytgjfmepbphfjoaa
open Go.ChangeShapes Go.WideShapes

def rawR (v : Value) : Option (DataW Value × List MemPlace) := some (.held v, [])

/-- Block b is a map of at most n entries that holds f. -/
def RawAt (P : Program) (kt : TypeId) (w : World) (b n : Nat) (f : Lit → Option Value) : Prop :=
  ∃ D : DataW Value, w.ownsMap P kt rawR b n D ∧ Maps.IsMap D ∧ ∀ kl, WideAt.IsKeyLit kl → Maps.has D kl = (f kl).isSome ∧ ∀ v, f kl = some v → ∀ z, D.atKey kl z = .held v

theorem RawAt.made (P : Program) (kt : TypeId) (w : World) : RawAt P kt (w.alloc (.map #[] 0)) w.heap.size 0 (fun _ => none) :=
  ⟨.map [], World.ownsMap_made w _ _ _, Maps.isMap_empty, fun _ _ => ⟨rfl, fun _ h => by cases h⟩⟩

theorem RawAt.lt {P : Program} {kt : TypeId} {w : World} {b n : Nat} {f : Lit → Option Value} (h : RawAt P kt w b n f) : b < w.heap.size := let ⟨_, h1, _⟩ := h; h1.lt

theorem RawAt.kept {P : Program} {kt : TypeId} {w w' : World} {b n : Nat} {f : Lit → Option Value} (h : RawAt P kt w b n f) (e : w'.heap[b]? = w.heap[b]?) : RawAt P kt w' b n f := by
  obtain ⟨D, ⟨es, clock, hb, F, hs, hD⟩, h2⟩ := h
  exact ⟨D, ⟨es, clock, e.trans hb, F, hs, hD⟩, h2⟩

theorem RawAt.mono {P : Program} {kt : TypeId} {w : World} {b n n' : Nat} {f : Lit → Option Value} (h : RawAt P kt w b n f) (hn : n ≤ n') : RawAt P kt w b n' f := let ⟨D, h1, h2⟩ := h; ⟨D, h1.mono hn, h2⟩

/-- A block of cells is no map. -/
theorem RawAt.ne {P : Program} {kt : TypeId} {w : World} {b n b' t : Nat} {f : Lit → Option Value} {xs : Array Value} {z : Nat × Nat} (h : RawAt P kt w b n f) (e : w.heap[b']? = some (.cells xs t z)) : b' ≠ b := by
  obtain ⟨D, ⟨es, clock, hb, _⟩, _⟩ := h
  intro e2
  subst e2
  rw [e] at hb
  cases hb

theorem RawAt.congr {P : Program} {kt : TypeId} {w : World} {b n : Nat} {f g : Lit → Option Value} (h : RawAt P kt w b n f) (e : ∀ kl, WideAt.IsKeyLit kl → f kl = g kl) : RawAt P kt w b n g := by
  obtain ⟨D, h1, h2, h3⟩ := h
  exact ⟨D, h1, h2, fun kl hk => by rw [← e kl hk]; exact h3 kl hk⟩

theorem RawAt.look {P : Program} {kt : TypeId} {w : World} {b n : Nat} {f : Lit → Option Value} (h : RawAt P kt w b n f) (K : Maps.Keyed P kt) {t e : TypeId} (ht : P.underlying t = some (.map kt e)) {z : Value} (hz : (zeroValue e).run P w = .ok z w)
    {key : Value} {kl : Lit} (hkey : keyOf P kt key = some kl) (hk : WideAt.IsKeyLit kl) :
    (Instr.lookup t (.map (some b)) key false).run P w = .ok ((f kl).getD z) w := by
  obtain ⟨D, h1, _, h3⟩ := h
  obtain ⟨v, ps, hrun, hv⟩ := h1.lookup K ht hz (zd := .held z) (zp := []) rfl hkey
  rw [hrun]
  obtain ⟨h4, h5⟩ := h3 kl hk
  have hv2 : DataW.held v = D.atKey kl (.held z) := by unfold rawR at hv; simp at hv; exact hv.1
  cases hf : f kl with
  | none =>
    rw [hf] at h4
    rw [Maps.atKey_of_not_has h4] at hv2
    cases hv2
    rfl
  | some y =>
    rw [h5 y hf] at hv2
    cases hv2
    rfl

theorem RawAt.look_ok {P : Program} {kt : TypeId} {w : World} {b n : Nat} {f : Lit → Option Value} (h : RawAt P kt w b n f) (K : Maps.Keyed P kt) {t e : TypeId} (ht : P.underlying t = some (.map kt e)) {z : Value} (hz : (zeroValue e).run P w = .ok z w)
    {key : Value} {kl : Lit} (hkey : keyOf P kt key = some kl) (hk : WideAt.IsKeyLit kl) :
    (Instr.lookup t (.map (some b)) key true).run P w = .ok (.tuple #[(f kl).getD z, .bool (f kl).isSome]) w := by
  obtain ⟨D, h1, _, h3⟩ := h
  obtain ⟨v, ps, hrun, hv⟩ := h1.look_ok K ht hz (zd := .held z) (zp := []) rfl hkey
  rw [hrun]
  obtain ⟨h4, h5⟩ := h3 kl hk
  have hv2 : DataW.held v = D.atKey kl (.held z) := by unfold rawR at hv; simp at hv; exact hv.1
  rw [h4]
  cases hf : f kl with
  | none =>
    rw [hf] at h4
    rw [Maps.atKey_of_not_has h4] at hv2
    cases hv2
    rfl
  | some y =>
    rw [h5 y hf] at hv2
    cases hv2
    rfl

theorem RawAt.put {P : Program} {kt : TypeId} {w : World} {b n : Nat} {f : Lit → Option Value} (h : RawAt P kt w b n f) (K : Maps.Keyed P kt) {t e : TypeId} (ht : P.underlying t = some (.map kt e)) (hn : n < maxLen)
    {key : Value} {kl : Lit} (hkey : keyOf P kt key = some kl) (hk : WideAt.IsKeyLit kl) (v : Value) :
    ∃ w', (Instr.mapUpdate t (.map (some b)) key v).run P w = .ok () w' ∧ (∀ g : Lit → Option Value, g kl = some v → (∀ j, j ≠ kl → g j = f j) → RawAt P kt w' b (n + 1) g) ∧ w.grownBy w' (some b) := by
  obtain ⟨D, h1, h2, h3⟩ := h
  obtain ⟨w', hrun, h4, h5⟩ := h1.update K ht hn hkey (val := v) (d := .held v) (ps := []) rfl
  refine ⟨w', hrun, fun g hg1 hg2 => ⟨_, h4, h2.put _ _, fun j hj => ?_⟩, h5⟩
  by_cases e : j = kl
  · subst e
    rw [hg1]
    exact ⟨Maps.has_put_same h2 hj _, fun v' hv' z => by cases hv'; exact Maps.atKey_put_same h2 hj _ _⟩
  · rw [hg2 j e, Maps.has_put_other e]
    exact ⟨(h3 j hj).1, fun v' hv' z => by rw [Maps.atKey_put_other e]; exact (h3 j hj).2 v' hv' z⟩

/-- 'v := m[k]' in the walk. -/
theorem wpList_look_raw {P : Program} (w : World) {ops : Array Oper} {rest : List Oper} {o : Oper} {a : Act} {Q : Exit → Act → World → Prop} (hg : o.guard = none) (m x : Operand) (t kt e : TypeId) (hop : o.op = Op.lookup t m x false)
    (K : Maps.Keyed P kt) (ht : P.underlying t = some (.map kt e)) {z : Value} (hz : (zeroValue e).run P w = .ok z w) (b n : Nat) (f : Lit → Option Value) (hm : a.eval m = .map (some b)) (h : RawAt P kt w b n f) (key : Value) (kl : Lit) (hx : a.eval x = key) (hkey : keyOf P kt key = some kl) (hk : WideAt.IsKeyLit kl)
    (hK : wpList P ops Q rest (a.put o.dst ((f kl).getD z)) w) : wpList P ops Q (o :: rest) a w := by
  refine wpList_plain hg fun K' hK' => ?_
  unfold Oper.wp
  simp [execOp, hop, hm, hx, h.look K ht hz hkey hk, Result.andThen]
  exact hK' _ _ hK

/-- 'v, ok := m[k]' in the walk. -/
theorem wpList_look_raw_ok {P : Program} (w : World) {ops : Array Oper} {rest : List Oper} {o : Oper} {a : Act} {Q : Exit → Act → World → Prop} (hg : o.guard = none) (m x : Operand) (t kt e : TypeId) (hop : o.op = Op.lookup t m x true)
    (K : Maps.Keyed P kt) (ht : P.underlying t = some (.map kt e)) {z : Value} (hz : (zeroValue e).run P w = .ok z w) (b n : Nat) (f : Lit → Option Value) (hm : a.eval m = .map (some b)) (h : RawAt P kt w b n f) (key : Value) (kl : Lit) (hx : a.eval x = key) (hkey : keyOf P kt key = some kl) (hk : WideAt.IsKeyLit kl)
    (hK : wpList P ops Q rest (a.put o.dst (.tuple #[(f kl).getD z, .bool (f kl).isSome])) w) : wpList P ops Q (o :: rest) a w := by
  refine wpList_plain hg fun K' hK' => ?_
  unfold Oper.wp
  simp [execOp, hop, hm, hx, h.look_ok K ht hz hkey hk, Result.andThen]
  exact hK' _ _ hK

/-- 'm[k] = v' in the walk. -/
theorem wpList_put_raw {P : Program} (w : World) {ops : Array Oper} {rest : List Oper} {o : Oper} {a : Act} {Q : Exit → Act → World → Prop} (hg : o.guard = none) (m x y : Operand) (t kt e : TypeId) (hop : o.op = Op.mapUpdate t m x y)
    (K : Maps.Keyed P kt) (ht : P.underlying t = some (.map kt e)) (b n : Nat) (f : Lit → Option Value) (hm : a.eval m = .map (some b)) (h : RawAt P kt w b n f) (hn : n < maxLen) (key v : Value) (kl : Lit) (hx : a.eval x = key) (hy : a.eval y = v) (hkey : keyOf P kt key = some kl) (hk : WideAt.IsKeyLit kl)
    (hK : ∀ w', (∀ g : Lit → Option Value, g kl = some v → (∀ j, j ≠ kl → g j = f j) → RawAt P kt w' b (n + 1) g) → w.grownBy w' (some b) → wpList P ops Q rest (a.put o.dst undef) w') : wpList P ops Q (o :: rest) a w := by
  refine wpList_plain hg fun K' hK' => ?_
  obtain ⟨w', hrun, h1, h2⟩ := h.put K ht hn hkey hk v
  unfold Oper.wp
  simp [execOp, hop, hm, hx, hy, hrun, Result.andThen]
  exact hK' _ _ (hK w' h1 h2)
end Go.Proofs.Ytgjfmepbphfjoaa
