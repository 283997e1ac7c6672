/-
  A map that the call has made, whatever its elements are: as a function of its keys.
-/
import Derived.Maps.OwnSet
import Derived.Maps.OwnOps
import Derived.Maps.Views
import Derived.Test.YtplkfacaphejgaaUSbSc
namespace Go.Proofs.Ytplkfacaphejgaa
open Go.ChangeShapes Go.WideShapes

def rawR (v : Value) : Option (DataW Value × List MemPlace) := some (.held v, [])

/-- Block b is a map of at most n entries that holds f. -/
def RawAt (P : Program) (kt : TypeId) (w : World) (b n : Nat) (f : Lit → Option Value) : Prop :=
  ∃ D : DataW Value, w.ownsMap P kt rawR b n D ∧ Maps.IsMap D ∧ ∀ kl, WideAt.IsKeyLit kl → Maps.has D kl = (f kl).isSome ∧ ∀ v, f kl = some v → ∀ z, D.atKey kl z = .held v

theorem RawAt.made (P : Program) (kt : TypeId) (w : World) : RawAt P kt (w.alloc (.map #[] 0)) w.heap.size 0 (fun _ => none) :=
  ⟨.map [], World.ownsMap_made w _ _ _, Maps.isMap_empty, fun _ _ => ⟨rfl, fun _ h => by cases h⟩⟩

theorem RawAt.lt {P : Program} {kt : TypeId} {w : World} {b n : Nat} {f : Lit → Option Value} (h : RawAt P kt w b n f) : b < w.heap.size := let ⟨_, h1, _⟩ := h; h1.lt

theorem RawAt.kept {P : Program} {kt : TypeId} {w w' : World} {b n : Nat} {f : Lit → Option Value} (h : RawAt P kt w b n f) (e : w'.heap[b]? = w.heap[b]?) : RawAt P kt w' b n f := by
  obtain ⟨D, ⟨es, clock, hb, F, hs, hD⟩, h2⟩ := h
  exact ⟨D, ⟨es, clock, e.trans hb, F, hs, hD⟩, h2⟩

theorem RawAt.mono {P : Program} {kt : TypeId} {w : World} {b n n' : Nat} {f : Lit → Option Value} (h : RawAt P kt w b n f) (hn : n ≤ n') : RawAt P kt w b n' f := let ⟨D, h1, h2⟩ := h; ⟨D, h1.mono hn, h2⟩

/-- A block of cells is no map. -/
theorem RawAt.ne {P : Program} {kt : TypeId} {w : World} {b n b' t : Nat} {f : Lit → Option Value} {xs : Array Value} {z : Nat × Nat} (h : RawAt P kt w b n f) (e : w.heap[b']? = some (.cells xs t z)) : b' ≠ b := by
  obtain ⟨D, ⟨es, clock, hb, _⟩, _⟩ := h
  intro e2
  subst e2
  rw [e] at hb
  cases hb

theorem RawAt.congr {P : Program} {kt : TypeId} {w : World} {b n : Nat} {f g : Lit → Option Value} (h : RawAt P kt w b n f) (e : ∀ kl, WideAt.IsKeyLit kl → f kl = g kl) : RawAt P kt w b n g := by
  obtain ⟨D, h1, h2, h3⟩ := h
  exact ⟨D, h1, h2, fun kl hk => by rw [← e kl hk]; exact h3 kl hk⟩

theorem RawAt.look {P : Program} {kt : TypeId} {w : World} {b n : Nat} {f : Lit → Option Value} (h : RawAt P kt w b n f) (K : Maps.Keyed P kt) {t e : TypeId} (ht : P.underlying t = some (.map kt e)) {z : Value} (hz : (zeroValue e).run P w = .ok z w)
    {key : Value} {kl : Lit} (hkey : keyOf P kt key = some kl) (hk : WideAt.IsKeyLit kl) :
    (Instr.lookup t (.map (some b)) key false).run P w = .ok ((f kl).getD z) w := by
  obtain ⟨D, h1, _, h3⟩ := h
  obtain ⟨v, ps, hrun, hv⟩ := h1.lookup K ht hz (zd := .held z) (zp := []) rfl hkey
  rw [hrun]
  obtain ⟨h4, h5⟩ := h3 kl hk
  have hv2 : DataW.held v = D.atKey kl (.held z) := by unfold rawR at hv; simp at hv; exact hv.1
  cases hf : f kl with
  | none =>
    rw [hf] at h4
    rw [Maps.atKey_of_not_has h4] at hv2
    cases hv2
    rfl
  | some y =>
    rw [h5 y hf] at hv2
    cases hv2
    rfl

theorem RawAt.look_ok {P : Program} {kt : TypeId} {w : World} {b n : Nat} {f : Lit → Option Value} (h : RawAt P kt w b n f) (K : Maps.Keyed P kt) {t e : TypeId} (ht : P.underlying t = some (.map kt e)) {z : Value} (hz : (zeroValue e).run P w = .ok z w)
    {key : Value} {kl : Lit} (hkey : keyOf P kt key = some kl) (hk : WideAt.IsKeyLit kl) :
    (Instr.lookup t (.map (some b)) key true).run P w = .ok (.tuple #[(f kl).getD z, .bool (f kl).isSome]) w := by
  obtain ⟨D, h1, _, h3⟩ := h
  obtain ⟨v, ps, hrun, hv⟩ := h1.look_ok K ht hz (zd := .held z) (zp := []) rfl hkey
  rw [hrun]
  obtain ⟨h4, h5⟩ := h3 kl hk
  have hv2 : DataW.held v = D.atKey kl (.held z) := by unfold rawR at hv; simp at hv; exact hv.1
  rw [h4]
  cases hf : f kl with
  | none =>
    rw [hf] at h4
    rw [Maps.atKey_of_not_has h4] at hv2
    cases hv2
    rfl
  | some y =>
    rw [h5 y hf] at hv2
    cases hv2
    rfl

theorem RawAt.put {P : Program} {kt : TypeId} {w : World} {b n : Nat} {f : Lit → Option Value} (h : RawAt P kt w b n f) (K : Maps.Keyed P kt) {t e : TypeId} (ht : P.underlying t = some (.map kt e)) (hn : n < maxLen)
    {key : Value} {kl : Lit} (hkey : keyOf P kt key = some kl) (hk : WideAt.IsKeyLit kl) (v : Value) :
    ∃ w', (Instr.mapUpdate t (.map (some b)) key v).run P w = .ok () w' ∧ (∀ g : Lit → Option Value, g kl = some v → (∀ j, j ≠ kl → g j = f j) → RawAt P kt w' b (n + 1) g) ∧ w.grownBy w' (some b) := by
  obtain ⟨D, h1, h2, h3⟩ := h
  obtain ⟨w', hrun, h4, h5⟩ := h1.update K ht hn hkey (val := v) (d := .held v) (ps := []) rfl
  refine ⟨w', hrun, fun g hg1 hg2 => ⟨_, h4, h2.put _ _, fun j hj => ?_⟩, h5⟩
  by_cases e : j = kl
  · subst e
    rw [hg1]
    exact ⟨Maps.has_put_same h2 hj _, fun v' hv' z => by cases hv'; exact Maps.atKey_put_same h2 hj _ _⟩
  · rw [hg2 j e, Maps.has_put_other e]
    exact ⟨(h3 j hj).1, fun v' hv' z => by rw [Maps.atKey_put_other e]; exact (h3 j hj).2 v' hv' z⟩

/-- 'v := m[k]' in the walk. -/
theorem wpList_look_raw {P : Program} (w : World) {ops : Array Oper} {rest : List Oper} {o : Oper} {a : Act} {Q : Exit → Act → World → Prop} (hg : o.guard = none) (m x : Operand) (t kt e : TypeId) (hop : o.op = Op.lookup t m x false)
    (K : Maps.Keyed P kt) (ht : P.underlying t = some (.map kt e)) {z : Value} (hz : (zeroValue e).run P w = .ok z w) (b n : Nat) (f : Lit → Option Value) (hm : a.eval m = .map (some b)) (h : RawAt P kt w b n f) (key : Value) (kl : Lit) (hx : a.eval x = key) (hkey : keyOf P kt key = some kl) (hk : WideAt.IsKeyLit kl)
    (hK : wpList P ops Q rest (a.put o.dst ((f kl).getD z)) w) : wpList P ops Q (o :: rest) a w := by
  refine wpList_plain hg fun K' hK' => ?_
  unfold Oper.wp
  simp [execOp, hop, hm, hx, h.look K ht hz hkey hk, Result.andThen]
  exact hK' _ _ hK

/-- 'v, ok := m[k]' in the walk. -/
theorem wpList_look_raw_ok {P : Program} (w : World) {ops : Array Oper} {rest : List Oper} {o : Oper} {a : Act} {Q : Exit → Act → World → Prop} (hg : o.guard = none) (m x : Operand) (t kt e : TypeId) (hop : o.op = Op.lookup t m x true)
    (K : Maps.Keyed P kt) (ht : P.underlying t = some (.map kt e)) {z : Value} (hz : (zeroValue e).run P w = .ok z w) (b n : Nat) (f : Lit → Option Value) (hm : a.eval m = .map (some b)) (h : RawAt P kt w b n f) (key : Value) (kl : Lit) (hx : a.eval x = key) (hkey : keyOf P kt key = some kl) (hk : WideAt.IsKeyLit kl)
    (hK : wpList P ops Q rest (a.put o.dst (.tuple #[(f kl).getD z, .bool (f kl).isSome])) w) : wpList P ops Q (o :: rest) a w := by
  refine wpList_plain hg fun K' hK' => ?_
  unfold Oper.wp
  simp [execOp, hop, hm, hx, h.look_ok K ht hz hkey hk, Result.andThen]
  exact hK' _ _ hK

/-- 'm[k] = v' in the walk. -/
theorem wpList_put_raw {P : Program} (w : World) {ops : Array Oper} {rest : List Oper} {o : Oper} {a : Act} {Q : Exit → Act → World → Prop} (hg : o.guard = none) (m x y : Operand) (t kt e : TypeId) (hop : o.op = Op.mapUpdate t m x y)
    (K : Maps.Keyed P kt) (ht : P.underlying t = some (.map kt e)) (b n : Nat) (f : Lit → Option Value) (hm : a.eval m = .map (some b)) (h : RawAt P kt w b n f) (hn : n < maxLen) (key v : Value) (kl : Lit) (hx : a.eval x = key) (hy : a.eval y = v) (hkey : keyOf P kt key = some kl) (hk : WideAt.IsKeyLit kl)
    (hK : ∀ w', (∀ g : Lit → Option Value, g kl = some v → (∀ j, j ≠ kl → g j = f j) → RawAt P kt w' b (n + 1) g) → w.grownBy w' (some b) → wpList P ops Q rest (a.put o.dst undef) w') : wpList P ops Q (o :: rest) a w := by
  refine wpList_plain hg fun K' hK' => ?_
  obtain ⟨w', hrun, h1, h2⟩ := h.put K ht hn hkey hk v
  unfold Oper.wp
  simp [execOp, hop, hm, hx, hy, hrun, Result.andThen]
  exact hK' _ _ (hK w' h1 h2)
end Go.Proofs.Ytplkfacaphejgaa

namespace Go.Proofs.Ytplkfacaphejgaa
open Go.RowKit

theorem Below.drewNs {B : Nat} {a w : World} (h : Below B a w) (q : Nat) : Below B a (w.drewN q) := ⟨h.os, h.tape, h.output, h.size, h.block⟩

set_option maxHeartbeats 4000000 in
theorem inForm_any (x : Nd) (ka : Option Addr) (kc : Nat) (w : World) (hbig : x.ks.length ≤ 9223372036854775807) (hks : IntsAt w ka x.ks) :
    Calls Try.prog 80 #[.agg #[.bool x.u, .int .i64 x.n, .int .i64 x.t, .int .i64 x.m, .int .i64 x.p, .slice ka x.ks.length kc, .int .i64 x.h, .bool x.c]] w fun e w' => e = .returned (.bool (formB x)) ∧ Below w.heap.size w w' := by
  obtain ⟨u, n, t, m, p, ks, h, c⟩ := x
  unfold formB
  dsimp only at *
  cases u
  · have hs := fun (W : World) (g1 : IntsAt W ka ks) => sameNode_unused n n t m p ks ka kc h c W rfl hbig g1
    have i1 : ∀ o1 o2 q, IntsAt (((w.alloc o1).alloc o2).drewN q) ka ks := fun o1 o2 q => hks.below (Below.drewNs (((Below.refl _ _).alloc (Nat.le_refl _) _).alloc (by simp) _) q)
    have I1 : Hid _ := i1
    clear i1 hks
    generalize hL : ks.length = L at *
    simp only [Bool.false_eq_true, if_false]
    generalize decide (t = 0 ∧ m = 0 ∧ p = -1 ∧ ks = [] ∧ h = -1 ∧ c = false) = r at *
    go_enter Try.func80, Try.ntmps80
    go_wp2_with fail
    go_region_with (first | (go_at_call 57; refine (unused_any _ _).mono ?_; rintro e w' ⟨rfl, rfl⟩) | (go_at_call 84; refine (hs _ (I1.out _ _ _)).mono ?_; rintro e w' ⟨rfl, hb⟩))
    all_goals go_wp2
    all_goals go_ret
    all_goals exact ⟨rfl, (Below.drewNs (((Below.refl _ _).alloc (Nat.le_refl _) _).alloc (by simp) _) _).trans (hb.mono (by simp [World.drewN]; omega))⟩
  · clear hks
    simp only [if_true]
    by_cases hn : n = 0
    · subst hn
      simp only [if_true]
      go_enter Try.func80, Try.ntmps80
      go_wp2
      go_ret
      exact ⟨rfl, (Below.refl _ _).alloc (Nat.le_refl _) _⟩
    · simp only [if_neg hn]
      by_cases hh : h = -1
      · subst hh
        simp only [if_true]
        go_enter Try.func80, Try.ntmps80
        go_wp2
        go_ret
        exact ⟨rfl, (Below.refl _ _).alloc (Nat.le_refl _) _⟩
      · simp only [if_neg hh]
        go_enter Try.func80, Try.ntmps80
        go_wp2
        go_ret
        exact ⟨rfl, (Below.refl _ _).alloc (Nat.le_refl _) _⟩

def nodeE (N : Int) (x : Nd) : Int := if rangeB x then (if namesB N x then (if formB x then 0 else 3) else 4) else 2

theorem node_low {w w1 : World} {u : Bool} {n t m p : Int} {k : Value} {h : Int} {c : Bool} (hb : Below (w.heap.size + 1) (w.alloc (.cells #[.bool u, .int .i64 n, .int .i64 t, .int .i64 m, .int .i64 p, k, .int .i64 h, .bool c] 73)) w1) :
    w1.cell? ⟨w.heap.size, 0, none⟩ = some (.bool u) ∧ w1.cell? ⟨w.heap.size, 1, none⟩ = some (.int .i64 n) ∧ w1.cell? ⟨w.heap.size, 2, none⟩ = some (.int .i64 t) ∧ w1.cell? ⟨w.heap.size, 3, none⟩ = some (.int .i64 m) ∧ w1.cell? ⟨w.heap.size, 4, none⟩ = some (.int .i64 p) ∧ w1.cell? ⟨w.heap.size, 5, none⟩ = some k ∧ w1.cell? ⟨w.heap.size, 6, none⟩ = some (.int .i64 h) ∧ w1.cell? ⟨w.heap.size, 7, none⟩ = some (.bool c) :=
  ⟨(hb.cell (by simp)).trans (by go_simp), (hb.cell (by simp)).trans (by go_simp), (hb.cell (by simp)).trans (by go_simp), (hb.cell (by simp)).trans (by go_simp), (hb.cell (by simp)).trans (by go_simp), (hb.cell (by simp)).trans (by go_simp), (hb.cell (by simp)).trans (by go_simp), (hb.cell (by simp)).trans (by go_simp)⟩

set_option maxHeartbeats 4000000 in
theorem checkNode_any (x : Nd) (ka : Option Addr) (kc : Nat) (N : Int) (w : World) (hN : 0 ≤ N ∧ N ≤ 24) (hbig : x.ks.length ≤ 9223372036854775807) (hks : IntsAt w ka x.ks) :
    Calls Try.prog 67 #[.agg #[.bool x.u, .int .i64 x.n, .int .i64 x.t, .int .i64 x.m, .int .i64 x.p, .slice ka x.ks.length kc, .int .i64 x.h, .bool x.c], .int .i64 N] w fun e w' => e = .returned (.int .i64 (nodeE N x)) ∧ Below w.heap.size w w' := by
  unfold nodeE
  have d1 := fun W => inRange_any x (.slice ka x.ks.length kc) W
  have d2 := fun (W : World) (g : IntsAt W ka x.ks) => namesPlaces_any x ka kc N W hN hbig g
  have d3 := fun (W : World) (g : IntsAt W ka x.ks) => inForm_any x ka kc W hbig g
  have i1 : ∀ o1 w1, Below (w.heap.size + 1) (w.alloc o1) w1 → IntsAt w1 ka x.ks := fun o1 w1 h1 => hks.below (((Below.refl _ _).alloc (Nat.le_refl _) _).trans (h1.mono (by omega)))
  have I1 : Hid _ := i1
  clear i1 hks
  generalize x.ks.length = L at *
  generalize rangeB x = b1 at *
  generalize namesB N x = b2 at *
  generalize formB x = b3 at *
  cases b1
  rotate_left
  cases b2
  rotate_left
  cases b3
  all_goals
    go_enter Try.func67, Try.ntmps67
    go_wp2_with (first
      | (go_at_call 78; refine (d1 _).mono ?_; rintro e w1 ⟨rfl, hb1⟩; simp only [World.size_alloc] at hb1; have B1 := hb1; obtain ⟨l0, l1, l2, l3, l4, l5, l6, l7⟩ := node_low hb1)
      | (go_at_call 79; refine (d2 _ (I1.out _ _ B1)).mono ?_; rintro e w2 ⟨rfl, hb2⟩; have B2 := B1.trans (hb2.mono (by have := B1.size; simp only [World.size_alloc] at this; omega)); clear l0 l1 l2 l3 l4 l5 l6 l7; obtain ⟨l0, l1, l2, l3, l4, l5, l6, l7⟩ := node_low B2)
      | (go_at_call 80; refine (d3 _ (I1.out _ _ B2)).mono ?_; rintro e w3 ⟨rfl, hb3⟩; have B3 := B2.trans (hb3.mono (by have := B2.size; simp only [World.size_alloc] at this; omega))))
  all_goals go_ret
  all_goals first
    | exact ⟨rfl, ((Below.refl _ _).alloc (Nat.le_refl _) _).trans (B3.mono (by omega))⟩
    | exact ⟨rfl, ((Below.refl _ _).alloc (Nat.le_refl _) _).trans (B2.mono (by omega))⟩
    | exact ⟨rfl, ((Below.refl _ _).alloc (Nat.le_refl _) _).trans (B1.mono (by omega))⟩
end Go.Proofs.Ytplkfacaphejgaa
