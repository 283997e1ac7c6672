/-
  What a store handed in reads as (a list of nodes, each with the list of its children), and contracts of the searches of lists of numbers.
-/
import Derived.Test.YtpnhmpmdeoaieaaProg
import Derived.WalkKit
import Derived.Deep.LoopGhost
import Derived.Deep.Draws
import Derived.Laws.CopyOwn
import Derived.Deep.OwnRows
import Derived.Shelf.Abstract
import Derived.Laws.AppendOwn
import Derived.Laws.Rows
import Derived.Maps.OwnSet
import Derived.Maps.OwnOps
import Derived.Maps.Views
namespace Go.Proofs.Ytpnhmpmdeoaieaa
open Go.RowKit

/-- A node: its fields, and the list of its children. -/
structure Nd where
  u : Bool
  n : Int
  t : Int
  m : Int
  p : Int
  ks : List Int
  h : Int
  c : Bool

def zeroNd : Nd := ⟨false, 0, 0, 0, 0, [], 0, false⟩

theorem getD_elem {α : Type} (l : List α) (d : α) {k : Nat} (h : k < l.length) : l.getD k d = l[k] := by
  simp [List.getD, h]

def IntsAt (w : World) (a : Option Addr) (ks : List Int) : Prop :=
  ∀ i, i < ks.length → ∃ b o, a = some ⟨b, o, none⟩ ∧ w.cell? ⟨b, o + i, none⟩ = some (.int .i64 (ks.getD i 0))

theorem IntsAt.below {w w' : World} {a : Option Addr} {ks : List Int} (h : IntsAt w a ks) (hb : Below w.heap.size w w') : IntsAt w' a ks := by
  intro i hi
  obtain ⟨b, o, e, hc⟩ := h i hi
  exact ⟨b, o, e, (hb.cell (World.block_lt_of_cell? w ⟨b, o + i, none⟩ hc)).trans hc⟩

/-- What is asked of a function value that tells yes or no of a number: in every world in which all that lay in w lies unturned, it answers p, and turns nothing. -/
def Tells (K : Nat) (caps : Array Value) (p : Int → Bool) (w : World) : Prop :=
  ∀ (x : Int) (w1 : World), Below w.heap.size w w1 → Calls Try.prog K (#[.int .i64 x] ++ caps) w1 fun e w2 => e = .returned (.bool (p x)) ∧ Below w1.heap.size w1 w2

set_option maxHeartbeats 400000 in
theorem indexFunc_any (K : Nat) (caps : Array Value) (p : Int → Bool) (a : Option Addr) (c : Nat) (ks : List Int) (w : World) (hbig : ks.length ≤ 9223372036854775807) (hks : IntsAt w a ks)
    (eg : ∀ args w, (callFunc K args).run Try.prog w = .ok (.enter K args) w) (hf : Tells K caps p w) :
    Calls Try.prog 67 #[.slice a ks.length c, .func (.func K) #[] caps] w fun e w' => ∃ r : Int, e = .returned (.int .i64 r) ∧ Below w.heap.size w w' ∧
      ((r = -1 ∧ ∀ i, i < ks.length → p (ks.getD i 0) = false) ∨ (∃ k : Nat, k < ks.length ∧ r = k ∧ p (ks.getD k 0) = true ∧ ∀ i, i < k → p (ks.getD i 0) = false)) := by
  generalize hn : ks.length = n at *
  go_enter Try.func67, Try.ntmps67
  go_wp2
  go_loopg [8] n (fun g s8 wr => ∃ k : Nat, k ≤ n ∧ n - k ≤ g ∧ s8 = .int .i64 k ∧ Below w.heap.size w wr ∧ Hid (∀ i, i < k → p (ks.getD i 0) = false))
  case atStart => exact ⟨0, by omega, by omega, rfl, Below.refl _ _, fun i hi => by omega⟩
  case round =>
    obtain ⟨k, hk, hg, rfl, hb, A⟩ := hrel
    by_cases hlt : k < n
    · obtain ⟨b, o, rfl, hc⟩ := (hks.below hb) k (by omega)
      have hcall := hf (ks.getD k 0) wr hb
      have F : Hid (Tells K caps p w) := hf
      have KS : Hid (IntsAt w (some ⟨b, o, none⟩) ks) := hks
      clear hks hf
      generalize hy : ks.getD k 0 = y at hc hcall
      have Y : Hid (ks.getD k 0 = y) := hy
      clear hy
      cases hq : p y with
      | true =>
        rw [hq] at hcall
        go_wp2_with (go_at_fn K; refine hcall.mono ?_; rintro e w' ⟨rfl, hb2⟩)
        go_ret
        exact ⟨k, rfl, hb.trans (hb2.mono hb.size), Or.inr ⟨k, hlt, rfl, by rw [Y.out]; exact hq, A.out⟩⟩
      | false =>
        rw [hq] at hcall
        go_wp2_with (go_at_fn K; refine hcall.mono ?_; rintro e w' ⟨rfl, hb2⟩)
        go_roundg (n - (k + 1))
        case measure => omega
        case rel =>
          refine ⟨k + 1, by omega, by omega, by go_num, hb.trans (hb2.mono hb.size), (show Hid _ from fun i hi => ?_)⟩
          by_cases e : i = k
          · subst e
            rw [Y.out]; exact hq
          · exact A.out i (by omega)
    · have : k = n := by omega
      subst this
      clear hks hf
      go_wp2
      go_ret
      exact ⟨-1, rfl, hb, Or.inl ⟨rfl, A.out⟩⟩

set_option maxHeartbeats 400000 in
theorem containsFunc_any (K : Nat) (caps : Array Value) (p : Int → Bool) (a : Option Addr) (c : Nat) (ks : List Int) (w : World) (hbig : ks.length ≤ 9223372036854775807) (hks : IntsAt w a ks)
    (eg : ∀ args w, (callFunc K args).run Try.prog w = .ok (.enter K args) w) (hf : Tells K caps p w) :
    Calls Try.prog 41 #[.slice a ks.length c, .func (.func K) #[] caps] w fun e w' => e = .returned (.bool (ks.any p)) ∧ Below w.heap.size w w' := by
  have h := indexFunc_any K caps p a c ks w hbig hks eg hf
  have any_of : ∀ k, k < ks.length → p (ks.getD k 0) = true → ks.any p = true := fun k hk hp => List.any_eq_true.2 ⟨ks.getD k 0, by rw [getD_elem _ _ hk]; exact List.getElem_mem hk, hp⟩
  have none_of : (∀ i, i < ks.length → p (ks.getD i 0) = false) → ks.any p = false := fun H => by
    rw [List.any_eq_false]
    intro x hx
    obtain ⟨i, hi, rfl⟩ := List.getElem_of_mem hx
    have := H i hi
    rw [getD_elem _ _ hi] at this
    simp [this]
  have H : Hid _ := any_of
  have N : Hid _ := none_of
  clear any_of none_of hks hf
  go_enter Try.func41, Try.ntmps41
  go_wp2_with (go_at_call 67; refine h.mono ?_; rintro e w' ⟨r, rfl, hb, hr⟩)
  go_ret
  refine ⟨?_, hb⟩
  rcases hr with ⟨rfl, hall⟩ | ⟨k, hk, rfl, hp, _⟩
  · rw [N.out hall]; rfl
  · rw [H.out k hk hp]
    simp
end Go.Proofs.Ytpnhmpmdeoaieaa

namespace Go.Proofs.Ytpnhmpmdeoaieaa
open Go.RowKit

theorem alloc_cell (W : World) (xs : Array Value) (t j : Nat) {v : Value} (h : xs[j]? = some v) : (W.alloc (.cells xs t)).cell? ⟨W.heap.size, j, none⟩ = some v := by
  have e := heap_alloc_new W (.cells xs t)
  simp only [World.cell?, e]
  exact h
theorem keepC {W W' : World} {b o : Nat} {v : Value} (h : W.cell? ⟨b, o, none⟩ = some v) (hb : Below W.heap.size W W') : W'.cell? ⟨b, o, none⟩ = some v := (hb.cell (World.block_lt_of_cell? _ _ h)).trans h
theorem one_belowS (w : World) (o1 : Obj) : Below w.heap.size w (w.alloc o1) := (Below.refl _ _).alloc (Nat.le_refl _) _
theorem two_belowS (w : World) (o1 o2 : Obj) : Below w.heap.size w ((w.alloc o1).alloc o2) := ((Below.refl _ _).alloc (Nat.le_refl _) _).alloc (by simp) _
theorem alloc_cell1 (W : World) (xs : Array Value) (t j : Nat) {v : Value} (o2 : Obj) (h : xs[j]? = some v) : ((W.alloc (.cells xs t)).alloc o2).cell? ⟨W.heap.size, j, none⟩ = some v := keepC (alloc_cell W xs t j h) (one_belowS _ _)
theorem alloc_cell2 (W : World) (xs : Array Value) (t j : Nat) {v : Value} (o1 : Obj) (h : xs[j]? = some v) : ((W.alloc o1).alloc (.cells xs t)).cell? ⟨W.heap.size + 1, j, none⟩ = some v := by
  have := alloc_cell (W.alloc o1) xs t j h
  simpa using this

theorem owns_block {w w' : World} {B e size n : Nat} {v : Value} {xs : List Value} (h : w.ownsRow B e size v n xs) (hb : ∀ k, v.ownBlock = some k → w'.heap[k]? = w.heap[k]?) : w'.ownsRow B e size v n xs := by
  obtain ⟨hl, h⟩ := h
  refine ⟨hl, ?_⟩
  rcases h with h | ⟨g, cap, cur, rfl, h1, h2, h3⟩
  · exact Or.inl h
  · exact Or.inr ⟨g, cap, cur, rfl, h1, (hb g rfl).trans h2, h3⟩

theorem ownsRow_baseL {w : World} {B B' e size n : Nat} {v : Value} {xs : List Value} (h : w.ownsRow B e size v n xs) (hB : B' ≤ B) : w.ownsRow B' e size v n xs := by
  obtain ⟨hl, h⟩ := h
  refine ⟨hl, ?_⟩
  rcases h with h | ⟨g, cap, cur, rfl, h1, h2, h3⟩
  · exact Or.inl h
  · exact Or.inr ⟨g, cap, cur, rfl, by omega, h2, h3⟩

/-- Two rows of different types are not one. -/
theorem owns_apart {w : World} {B B' e e' size size' n n' : Nat} {v v' : Value} {xs xs' : List Value} (h : w.ownsRow B e size v n xs) (h' : w.ownsRow B' e' size' v' n' xs') (hne : e ≠ e') : ∀ k, v.ownBlock = some k → v'.ownBlock ≠ some k := by
  intro k hk hk'
  obtain ⟨_, h⟩ := h
  obtain ⟨_, h'⟩ := h'
  rcases h with ⟨rfl, _⟩ | ⟨g, cap, cur, rfl, _, h2, _⟩
  · cases hk
  rcases h' with ⟨rfl, _⟩ | ⟨g', cap', cur', rfl, _, h2', _⟩
  · cases hk'
  cases hk
  cases hk'
  rw [h2] at h2'
  cases h2'
  exact hne rfl

theorem ints_own {B : Nat} {w2 : World} {v : Value} {l : List Int} {n : Nat} (hown : w2.ownsRow B 3 1 v n (l.map (Value.int .i64))) : ∃ sa cap, v = .slice sa l.length cap ∧ IntsAt w2 sa l := by
  have hn : n = l.length := by have := hown.1; simp at this; omega
  subst hn
  obtain ⟨hl, h⟩ := hown
  rcases h with ⟨rfl, h0⟩ | ⟨g, cap, cur, rfl, _, hg, h1, h2, h3, h4⟩
  · exact ⟨none, 0, by rw [h0], fun i hi => by omega⟩
  · refine ⟨some ⟨g, 0, none⟩, cap, rfl, fun i hi => ⟨g, 0, rfl, ?_⟩⟩
    have h5 : (cur.toList.take (l.length * 1))[i]? = some (.int .i64 (l.getD i 0)) := by
      rw [h4, List.getElem?_map, List.getElem?_eq_getElem hi, getD_elem l 0 hi]; rfl
    rw [List.getElem?_take, if_pos (by omega)] at h5
    simp only [Nat.zero_add, World.cell?, hg]
    simpa using h5

theorem box_set {w : World} {b t : Nat} {v v' : Value} (h : w.heap[b]? = some (.cells #[v] t (0, 0))) : (w.setCell ⟨b, 0, none⟩ v').heap[b]? = some (.cells #[v'] t (0, 0)) := by
  show (w.heap.modify b _)[b]? = _
  rw [Array.getElem?_modify, if_pos rfl, h]
  rfl

theorem box_frozen {w : World} {b t o : Nat} {v : Value} (h : w.heap[b]? = some (.cells #[v] t (0, 0))) : w.frozen? ⟨b, o, none⟩ = false := by
  simp [World.frozen?, h]

/-- A block of cells is no map, and the other way round. -/
theorem box_cell {w : World} {b t : Nat} {v : Value} (h : w.heap[b]? = some (.cells #[v] t (0, 0))) : w.cell? ⟨b, 0, none⟩ = some v := by
  simp [World.cell?, h]
theorem box_lt {w : World} {b : Nat} {o : Obj} (h : w.heap[b]? = some o) : b < w.heap.size := (Array.getElem?_eq_some_iff.1 h).1

theorem own_of_row {w : World} {B g cap : Nat} {l : List Int} {G : Nat → Value} (h : w.rowIs g 3 cap G) (hg : ∀ j, j < l.length → G j = .int .i64 (l.getD j 0)) (h1 : l.length ≤ cap) (h2 : cap ≤ maxLen) (h3 : B ≤ g) : w.ownsRow B 3 1 (.slice (some ⟨g, 0, none⟩) l.length cap) l.length (l.map (Value.int .i64)) := by
  obtain ⟨cur, hc, hs, hf⟩ := h
  refine ⟨by simp, Or.inr ⟨g, cap, cur, rfl, h3, hc, h1, h2, by omega, ?_⟩⟩
  rw [Nat.mul_one]
  refine List.ext_getElem? fun j => ?_
  rw [List.getElem?_take, List.getElem?_map]
  by_cases hj : j < l.length
  · rw [if_pos hj, Array.getElem?_toList, hf j (by omega), hg j hj, List.getElem?_eq_getElem hj, getD_elem l 0 hj]
    rfl
  · rw [if_neg hj, List.getElem?_eq_none (by omega)]
    rfl
end Go.Proofs.Ytpnhmpmdeoaieaa

namespace Go.Proofs.Ytpnhmpmdeoaieaa
open Go.ChangeShapes Go.WideShapes

def rawR (v : Value) : Option (DataW Value × List MemPlace) := some (.held v, [])

/-- Block b is a map of at most n entries that holds f. -/
def RawAt (P : Program) (kt : TypeId) (w : World) (b n : Nat) (f : Lit → Option Value) : Prop :=
  ∃ D : DataW Value, w.ownsMap P kt rawR b n D ∧ Maps.IsMap D ∧ ∀ kl, WideAt.IsKeyLit kl → Maps.has D kl = (f kl).isSome ∧ ∀ v, f kl = some v → ∀ z, D.atKey kl z = .held v

theorem RawAt.made (P : Program) (kt : TypeId) (w : World) : RawAt P kt (w.alloc (.map #[] 0)) w.heap.size 0 (fun _ => none) :=
  ⟨.map [], World.ownsMap_made w _ _ _, Maps.isMap_empty, fun _ _ => ⟨rfl, fun _ h => by cases h⟩⟩

theorem RawAt.lt {P : Program} {kt : TypeId} {w : World} {b n : Nat} {f : Lit → Option Value} (h : RawAt P kt w b n f) : b < w.heap.size := let ⟨_, h1, _⟩ := h; h1.lt

theorem RawAt.kept {P : Program} {kt : TypeId} {w w' : World} {b n : Nat} {f : Lit → Option Value} (h : RawAt P kt w b n f) (e : w'.heap[b]? = w.heap[b]?) : RawAt P kt w' b n f := by
  obtain ⟨D, ⟨es, clock, hb, F, hs, hD⟩, h2⟩ := h
  exact ⟨D, ⟨es, clock, e.trans hb, F, hs, hD⟩, h2⟩

theorem RawAt.mono {P : Program} {kt : TypeId} {w : World} {b n n' : Nat} {f : Lit → Option Value} (h : RawAt P kt w b n f) (hn : n ≤ n') : RawAt P kt w b n' f := let ⟨D, h1, h2⟩ := h; ⟨D, h1.mono hn, h2⟩

/-- A block of cells is no map. -/
theorem RawAt.ne {P : Program} {kt : TypeId} {w : World} {b n b' t : Nat} {f : Lit → Option Value} {xs : Array Value} {z : Nat × Nat} (h : RawAt P kt w b n f) (e : w.heap[b']? = some (.cells xs t z)) : b' ≠ b := by
  obtain ⟨D, ⟨es, clock, hb, _⟩, _⟩ := h
  intro e2
  subst e2
  rw [e] at hb
  cases hb

theorem RawAt.congr {P : Program} {kt : TypeId} {w : World} {b n : Nat} {f g : Lit → Option Value} (h : RawAt P kt w b n f) (e : ∀ kl, WideAt.IsKeyLit kl → f kl = g kl) : RawAt P kt w b n g := by
  obtain ⟨D, h1, h2, h3⟩ := h
  exact ⟨D, h1, h2, fun kl hk => by rw [← e kl hk]; exact h3 kl hk⟩

theorem RawAt.look {P : Program} {kt : TypeId} {w : World} {b n : Nat} {f : Lit → Option Value} (h : RawAt P kt w b n f) (K : Maps.Keyed P kt) {t e : TypeId} (ht : P.underlying t = some (.map kt e)) {z : Value} (hz : (zeroValue e).run P w = .ok z w)
    {key : Value} {kl : Lit} (hkey : keyOf P kt key = some kl) (hk : WideAt.IsKeyLit kl) :
    (Instr.lookup t (.map (some b)) key false).run P w = .ok ((f kl).getD z) w := by
  obtain ⟨D, h1, _, h3⟩ := h
  obtain ⟨v, ps, hrun, hv⟩ := h1.lookup K ht hz (zd := .held z) (zp := []) rfl hkey
  rw [hrun]
  obtain ⟨h4, h5⟩ := h3 kl hk
  have hv2 : DataW.held v = D.atKey kl (.held z) := by unfold rawR at hv; simp at hv; exact hv.1
  cases hf : f kl with
  | none =>
    rw [hf] at h4
    rw [Maps.atKey_of_not_has h4] at hv2
    cases hv2
    rfl
  | some y =>
    rw [h5 y hf] at hv2
    cases hv2
    rfl

theorem RawAt.look_ok {P : Program} {kt : TypeId} {w : World} {b n : Nat} {f : Lit → Option Value} (h : RawAt P kt w b n f) (K : Maps.Keyed P kt) {t e : TypeId} (ht : P.underlying t = some (.map kt e)) {z : Value} (hz : (zeroValue e).run P w = .ok z w)
    {key : Value} {kl : Lit} (hkey : keyOf P kt key = some kl) (hk : WideAt.IsKeyLit kl) :
    (Instr.lookup t (.map (some b)) key true).run P w = .ok (.tuple #[(f kl).getD z, .bool (f kl).isSome]) w := by
  obtain ⟨D, h1, _, h3⟩ := h
  obtain ⟨v, ps, hrun, hv⟩ := h1.look_ok K ht hz (zd := .held z) (zp := []) rfl hkey
  rw [hrun]
  obtain ⟨h4, h5⟩ := h3 kl hk
  have hv2 : DataW.held v = D.atKey kl (.held z) := by unfold rawR at hv; simp at hv; exact hv.1
  rw [h4]
  cases hf : f kl with
  | none =>
    rw [hf] at h4
    rw [Maps.atKey_of_not_has h4] at hv2
    cases hv2
    rfl
  | some y =>
    rw [h5 y hf] at hv2
    cases hv2
    rfl

theorem RawAt.put {P : Program} {kt : TypeId} {w : World} {b n : Nat} {f : Lit → Option Value} (h : RawAt P kt w b n f) (K : Maps.Keyed P kt) {t e : TypeId} (ht : P.underlying t = some (.map kt e)) (hn : n < maxLen)
    {key : Value} {kl : Lit} (hkey : keyOf P kt key = some kl) (hk : WideAt.IsKeyLit kl) (v : Value) :
    ∃ w', (Instr.mapUpdate t (.map (some b)) key v).run P w = .ok () w' ∧ (∀ g : Lit → Option Value, g kl = some v → (∀ j, j ≠ kl → g j = f j) → RawAt P kt w' b (n + 1) g) ∧ w.grownBy w' (some b) := by
  obtain ⟨D, h1, h2, h3⟩ := h
  obtain ⟨w', hrun, h4, h5⟩ := h1.update K ht hn hkey (val := v) (d := .held v) (ps := []) rfl
  refine ⟨w', hrun, fun g hg1 hg2 => ⟨_, h4, h2.put _ _, fun j hj => ?_⟩, h5⟩
  by_cases e : j = kl
  · subst e
    rw [hg1]
    exact ⟨Maps.has_put_same h2 hj _, fun v' hv' z => by cases hv'; exact Maps.atKey_put_same h2 hj _ _⟩
  · rw [hg2 j e, Maps.has_put_other e]
    exact ⟨(h3 j hj).1, fun v' hv' z => by rw [Maps.atKey_put_other e]; exact (h3 j hj).2 v' hv' z⟩

/-- 'v := m[k]' in the walk. -/
theorem wpList_look_raw {P : Program} (w : World) {ops : Array Oper} {rest : List Oper} {o : Oper} {a : Act} {Q : Exit → Act → World → Prop} (hg : o.guard = none) (m x : Operand) (t kt e : TypeId) (hop : o.op = Op.lookup t m x false)
    (K : Maps.Keyed P kt) (ht : P.underlying t = some (.map kt e)) {z : Value} (hz : (zeroValue e).run P w = .ok z w) (b n : Nat) (f : Lit → Option Value) (hm : a.eval m = .map (some b)) (h : RawAt P kt w b n f) (key : Value) (kl : Lit) (hx : a.eval x = key) (hkey : keyOf P kt key = some kl) (hk : WideAt.IsKeyLit kl)
    (hK : wpList P ops Q rest (a.put o.dst ((f kl).getD z)) w) : wpList P ops Q (o :: rest) a w := by
  refine wpList_plain hg fun K' hK' => ?_
  unfold Oper.wp
  simp [execOp, hop, hm, hx, h.look K ht hz hkey hk, Result.andThen]
  exact hK' _ _ hK

/-- 'v, ok := m[k]' in the walk. -/
theorem wpList_look_raw_ok {P : Program} (w : World) {ops : Array Oper} {rest : List Oper} {o : Oper} {a : Act} {Q : Exit → Act → World → Prop} (hg : o.guard = none) (m x : Operand) (t kt e : TypeId) (hop : o.op = Op.lookup t m x true)
    (K : Maps.Keyed P kt) (ht : P.underlying t = some (.map kt e)) {z : Value} (hz : (zeroValue e).run P w = .ok z w) (b n : Nat) (f : Lit → Option Value) (hm : a.eval m = .map (some b)) (h : RawAt P kt w b n f) (key : Value) (kl : Lit) (hx : a.eval x = key) (hkey : keyOf P kt key = some kl) (hk : WideAt.IsKeyLit kl)
    (hK : wpList P ops Q rest (a.put o.dst (.tuple #[(f kl).getD z, .bool (f kl).isSome])) w) : wpList P ops Q (o :: rest) a w := by
  refine wpList_plain hg fun K' hK' => ?_
  unfold Oper.wp
  simp [execOp, hop, hm, hx, h.look_ok K ht hz hkey hk, Result.andThen]
  exact hK' _ _ hK

/-- 'm[k] = v' in the walk. -/
theorem wpList_put_raw {P : Program} (w : World) {ops : Array Oper} {rest : List Oper} {o : Oper} {a : Act} {Q : Exit → Act → World → Prop} (hg : o.guard = none) (m x y : Operand) (t kt e : TypeId) (hop : o.op = Op.mapUpdate t m x y)
    (K : Maps.Keyed P kt) (ht : P.underlying t = some (.map kt e)) (b n : Nat) (f : Lit → Option Value) (hm : a.eval m = .map (some b)) (h : RawAt P kt w b n f) (hn : n < maxLen) (key v : Value) (kl : Lit) (hx : a.eval x = key) (hy : a.eval y = v) (hkey : keyOf P kt key = some kl) (hk : WideAt.IsKeyLit kl)
    (hK : ∀ w', (∀ g : Lit → Option Value, g kl = some v → (∀ j, j ≠ kl → g j = f j) → RawAt P kt w' b (n + 1) g) → w.grownBy w' (some b) → wpList P ops Q rest (a.put o.dst undef) w') : wpList P ops Q (o :: rest) a w := by
  refine wpList_plain hg fun K' hK' => ?_
  obtain ⟨w', hrun, h1, h2⟩ := h.put K ht hn hkey hk v
  unfold Oper.wp
  simp [execOp, hop, hm, hx, hy, hrun, Result.andThen]
  exact hK' _ _ (hK w' h1 h2)
end Go.Proofs.Ytpnhmpmdeoaieaa

namespace Go.Proofs.Ytpnhmpmdeoaieaa
open Go.ChangeShapes Go.WideShapes

set_option maxRecDepth 100000 in
theorem zeroBool (w : World) : (zeroValue 4).run Try.prog w = .ok (.bool false) w := by kernel_rfl

/-- Block b is a map of at most n entries that says f of every int. -/
def MarksAt (w : World) (b n : Nat) (f : Int → Bool) : Prop :=
  ∃ D : DataW Unit, w.ownsMap Try.prog 3 (plainElem Try.prog 4) b n D ∧ Maps.IsMap D ∧ ∀ k : Int, (Lit.int .i64 k).wf = true → D.atKey (.int .i64 k) (.lit (.bool false)) = .lit (.bool (f k))

theorem MarksAt.made (w : World) : MarksAt (w.alloc (.map #[] 0)) w.heap.size 0 (fun _ => false) :=
  ⟨.map [], World.ownsMap_made w _ _ _, Maps.isMap_empty, fun _ _ => rfl⟩

theorem MarksAt.lt {w : World} {b n : Nat} {f : Int → Bool} (h : MarksAt w b n f) : b < w.heap.size := let ⟨_, h1, _⟩ := h; h1.lt

theorem MarksAt.kept {w w' : World} {b n : Nat} {f : Int → Bool} (h : MarksAt w b n f) (e : w'.heap[b]? = w.heap[b]?) : MarksAt w' b n f := by
  obtain ⟨D, ⟨es, clock, hb, F, hs, hD⟩, h2⟩ := h
  exact ⟨D, ⟨es, clock, e.trans hb, F, hs, hD⟩, h2⟩

theorem plainElem_bool_inv {P : Program} {e : TypeId} (he : P.underlying e = some .bool) {v : Value} {z : DataW Unit × List MemPlace} (h : plainElem P e v = some z) : ∃ x, v = .bool x ∧ z = (.lit (.bool x), []) := by
  unfold plainElem at h
  rw [he] at h
  cases v <;> simp at h
  exact ⟨_, rfl, h.symm⟩

theorem MarksAt.look {w : World} {b n : Nat} {f : Int → Bool} (h : MarksAt w b n f) {t : TypeId} (ht : Try.prog.underlying t = some (.map 3 4)) {k : Int} (hk : (Lit.int .i64 k).wf = true) :
    (Instr.lookup t (.map (some b)) (.int .i64 k) false).run Try.prog w = .ok (.bool (f k)) w := by
  obtain ⟨D, h1, _, h3⟩ := h
  obtain ⟨v, ps, hrun, hv⟩ := h1.lookup (Maps.int_keyed Try.underlying3) ht (zeroBool w) (plainElem_bool Try.underlying4 false) (Maps.keyOf_int_mk Try.underlying3 hk)
  obtain ⟨x, rfl, e⟩ := plainElem_bool_inv Try.underlying4 hv
  rw [h3 k hk] at e
  cases e
  exact hrun

theorem MarksAt.put {w : World} {b n : Nat} {f : Int → Bool} (h : MarksAt w b n f) {t : TypeId} (ht : Try.prog.underlying t = some (.map 3 4)) (hn : n < maxLen) {k : Int} (hk : (Lit.int .i64 k).wf = true) (v : Bool) :
    ∃ w', (Instr.mapUpdate t (.map (some b)) (.int .i64 k) (.bool v)).run Try.prog w = .ok () w' ∧ MarksAt w' b (n + 1) (fun j => if j = k then v else f j) ∧ w.grownBy w' (some b) := by
  obtain ⟨D, h1, h2, h3⟩ := h
  obtain ⟨w', hrun, h4, h5⟩ := h1.update (Maps.int_keyed Try.underlying3) ht hn (Maps.keyOf_int_mk Try.underlying3 hk) (plainElem_bool Try.underlying4 v)
  refine ⟨w', hrun, ⟨_, h4, h2.put _ _, fun j hj => ?_⟩, h5⟩
  by_cases e : j = k
  · subst e
    simp only [if_true]
    exact Maps.atKey_put_same (k := .int .i64 j) h2 (show WideAt.IsKeyLit (.int .i64 j) from trivial) _ _
  · simp only [if_neg e]
    rw [Maps.atKey_put_other (by intro e2; cases e2; exact e rfl)]
    exact h3 j hj

/-- 'm[k]' in the walk. -/
theorem wpList_look_marks (w : World) {ops : Array Oper} {rest : List Oper} {o : Oper} {a : Act} {Q : Exit → Act → World → Prop} (hg : o.guard = none) (m x : Operand) (t : TypeId) (hop : o.op = Op.lookup t m x false)
    (ht : Try.prog.underlying t = some (.map 3 4)) (b n : Nat) (f : Int → Bool) (hm : a.eval m = .map (some b)) (h : MarksAt w b n f) (k : Int) (hx : a.eval x = .int .i64 k) (hk : (Lit.int .i64 k).wf = true)
    (hK : wpList Try.prog ops Q rest (a.put o.dst (.bool (f k))) w) : wpList Try.prog ops Q (o :: rest) a w := by
  refine wpList_plain hg fun K' hK' => ?_
  unfold Oper.wp
  simp [execOp, hop, hm, hx, h.look ht hk, Result.andThen]
  exact hK' _ _ hK

/-- 'm[k] = v' in the walk. -/
theorem wpList_put_marks (w : World) {ops : Array Oper} {rest : List Oper} {o : Oper} {a : Act} {Q : Exit → Act → World → Prop} (hg : o.guard = none) (m x y : Operand) (t : TypeId) (hop : o.op = Op.mapUpdate t m x y)
    (ht : Try.prog.underlying t = some (.map 3 4)) (b n : Nat) (f : Int → Bool) (hm : a.eval m = .map (some b)) (h : MarksAt w b n f) (hn : n < maxLen) (k : Int) (v : Bool) (hx : a.eval x = .int .i64 k) (hy : a.eval y = .bool v) (hk : (Lit.int .i64 k).wf = true)
    (hK : ∀ w', MarksAt w' b (n + 1) (fun j => if j = k then v else f j) → w.grownBy w' (some b) → wpList Try.prog ops Q rest (a.put o.dst undef) w') : wpList Try.prog ops Q (o :: rest) a w := by
  refine wpList_plain hg fun K' hK' => ?_
  obtain ⟨w', hrun, h1, h2⟩ := h.put ht hn hk v
  unfold Oper.wp
  simp [execOp, hop, hm, hx, hy, hrun, Result.andThen]
  exact hK' _ _ (hK w' h1 h2)
end Go.Proofs.Ytpnhmpmdeoaieaa
