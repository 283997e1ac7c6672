/-
  The reference's small functions: in, RightUnder, HoldsOf.
-/
import Derived.Test.YtplkfacaphejgaaUSk
import Derived.BigQuiet
import Derived.Laws.AppendOwn
import Derived.Laws.EntriesVeiled
import Derived.Test.YtplkfacaphejgaaUSaBa
import Derived.Shelf.SlGeneric
import Derived.Shelf.Spec.SlicesInsertGrow
import Derived.Ground.Names2Prog
import Derived.Ground.SlgfProg
import Derived.Shelf.SlicesE.DeleteFunc
import Derived.Test.YtplkfacaphejgaaProg
namespace Go.Proofs.Ytplkfacaphejgaa
open Go.RowKit

theorem rin_any (x a b : Int) (w : World) :
    Calls Try.prog 54 #[.int .i64 x, .int .i64 a, .int .i64 b] w fun e w' => e = .returned (.bool (decide (a ≤ x ∧ x ≤ b))) ∧ w' = w := by
  by_cases h1 : a ≤ x
  · by_cases h2 : x ≤ b
    · rw [decide_eq_true ⟨h1, h2⟩]
      go_enter Try.func54, Try.ntmps54
      go_wp2
      go_ret
      exact ⟨rfl, rfl⟩
    · rw [decide_eq_false (fun h => h2 h.2)]
      have h3 : decide (x ≤ b) = false := decide_eq_false h2
      go_enter Try.func54, Try.ntmps54
      go_wp2
      go_ret
      exact ⟨rfl, rfl⟩
  · rw [decide_eq_false (fun h => h1 h.1)]
    have h3 : decide (a ≤ x) = false := decide_eq_false h1
    go_enter Try.func54, Try.ntmps54
    go_wp2
    go_ret
    exact ⟨rfl, rfl⟩

set_option maxHeartbeats 400000 in
theorem rRightUnder_any (x : Nd) (k : Value) (w : World) :
    Calls Try.prog 33 #[.agg #[.bool x.u, .int .i64 x.n, .int .i64 x.t, .int .i64 x.m, .int .i64 x.p, k, .int .i64 x.h, .bool x.c]] w fun e w' => e = .returned (.int .i64 (if x.h = -1 then x.p else x.h)) ∧ Below w.heap.size w w' := by
  obtain ⟨u, n, t, m, p, ks, h, c⟩ := x
  dsimp only
  by_cases e : h = -1
  · subst e
    simp only [if_true]
    go_enter Try.func33, Try.ntmps33
    go_wp2
    go_ret
    exact ⟨rfl, (Below.refl _ _).alloc (Nat.le_refl _) _⟩
  · simp only [if_neg e]
    have e2 : (h == -1) = false := beq_eq_false_iff_ne.2 e
    go_enter Try.func33, Try.ntmps33
    go_wp2
    go_ret
    exact ⟨rfl, (Below.refl _ _).alloc (Nat.le_refl _) _⟩
end Go.Proofs.Ytplkfacaphejgaa

namespace Go.Proofs.Ytplkfacaphejgaa
open Go.RowKit

/-- A node and all under it, each ahead of its children, down to f steps. -/
def orderF (S : List Nd) : Nat → Nat → List Int
  | 0, p => [(p : Int)]
  | f + 1, p => (p : Int) :: (nd S p).ks.flatMap fun k => orderF S f k.toNat

/-- No way down from p is longer than f; who is named on it is a place. -/
def Deep (S : List Nd) : Nat → Nat → Prop
  | 0, p => (nd S p).ks = []
  | f + 1, p => ∀ k ∈ (nd S p).ks, (0 ≤ k ∧ k < S.length) ∧ Deep S f k.toNat

/-- The same, over whatever is right below. -/
def orderG (ks : Nat → List Int) : Nat → Nat → List Int
  | 0, p => [(p : Int)]
  | f + 1, p => (p : Int) :: (ks p).flatMap fun k => orderG ks f k.toNat

def DeepG (ks : Nat → List Int) (n : Nat) : Nat → Nat → Prop
  | 0, p => ks p = []
  | f + 1, p => ∀ k ∈ ks p, (0 ≤ k ∧ k < n) ∧ DeepG ks n f k.toNat

theorem orderG_eq (S : List Nd) : ∀ f p, orderG (fun p => (nd S p).ks) f p = orderF S f p
  | 0, _ => rfl
  | f + 1, p => by
    simp only [orderG, orderF]
    congr 1
    congr 1
    funext k
    exact orderG_eq S f k.toNat

theorem deepG_of {S : List Nd} : ∀ {f p : Nat}, Deep S f p → DeepG (fun p => (nd S p).ks) S.length f p
  | 0, _, h => h
  | _ + 1, _, h => fun k hk => ⟨(h k hk).1, deepG_of (h k hk).2⟩

/-- What is appended to so far. -/
def OrdI (W : World) (bo : Nat) (l : List Int) (w1 : World) : Prop :=
  Off (fun k => k = bo) W w1 ∧ ∃ v, w1.cell? ⟨bo, 0, none⟩ = some v ∧ w1.frozen? ⟨bo, 0, none⟩ = false ∧ w1.ownsRow W.heap.size 3 1 v l.length (l.map (Value.int .i64))

theorem grownBy_setCell (w : World) (a : Addr) (v : Value) : w.grownBy (w.setCell a v) (some a.block) :=
  ⟨rfl, rfl, rfl, by simp [World.setCell], fun k _ hne => Below.heap_setCell _ _ _ _ (fun e => hne (by rw [e]))⟩

theorem OrdI.step {W w1 w2 : World} {bo : Nat} {l : List Int} {p : Int} {v v' : Value} (hbo : bo < W.heap.size) (hO : Off (fun k => k = bo) W w1) (hc : w1.cell? ⟨bo, 0, none⟩ = some v) (hf : w1.frozen? ⟨bo, 0, none⟩ = false)
    (hown : w1.ownsRow W.heap.size 3 1 v l.length (l.map (Value.int .i64))) (o1 : Obj)
    (hown' : w2.ownsRow W.heap.size 3 1 v' (l.length + 1) (l.map (Value.int .i64) ++ [.int .i64 p])) (hg : (w1.alloc o1).grownBy w2 v.ownBlock) :
    w2.cell? ⟨bo, 0, none⟩ = some v ∧ w2.frozen? ⟨bo, 0, none⟩ = false ∧ OrdI W bo (l ++ [p]) (w2.setCell ⟨bo, 0, none⟩ v') := by
  have hrow : ∀ k, v.ownBlock = some k → W.heap.size ≤ k := fun k hk => (hown.lt k hk).1
  have hbw : bo < w1.heap.size := Nat.lt_of_lt_of_le hbo hO.size
  have hblk : ∀ k, k < W.heap.size → w2.heap[k]? = w1.heap[k]? := fun k hk =>
    (hg.block k (by have := hO.size; simp; omega) (fun e => by have := hrow k e.symm; omega)).trans (Below.heap_alloc _ _ _ (by have := hO.size; omega))
  have hc2 : w2.cell? ⟨bo, 0, none⟩ = some v := (World.cell?_of_block (hblk bo hbo)).trans hc
  refine ⟨hc2, (World.frozen?_of_block (hblk bo hbo)).trans hf, ?_, v', World.cell?_setCell_same _ _ _ hc2, ?_, ?_⟩
  · refine ⟨?_, ?_, ?_, ?_, fun k hk hx => ?_⟩
    · exact hg.os.trans hO.os
    · exact hg.tape.trans hO.tape
    · exact hg.output.trans hO.output
    · have := hg.size; have h2 := hO.size; simp [World.setCell] at *; omega
    · rw [Below.heap_setCell _ _ _ _ (by exact hx), hblk k hk]; exact hO.block k hk hx
  · rw [World.frozen?_setCell]; exact (World.frozen?_of_block (hblk bo hbo)).trans hf
  · have h3 := hown'.kept (grownBy_setCell w2 ⟨bo, 0, none⟩ v') (by
      cases hb : v'.ownBlock with
      | none => exact Or.inl rfl
      | some k => right; intro e; have := (hown'.lt k hb).1; simp at e; omega)
    simpa using h3

theorem OrdI.below {W w1 w2 : World} {bo : Nat} {l : List Int} (h : OrdI W bo l w1) (hbo : bo < W.heap.size) (hb : Below w1.heap.size w1 w2) : OrdI W bo l w2 := by
  obtain ⟨hO, v, hc, hf, hown⟩ := h
  have hbw : bo < w1.heap.size := Nat.lt_of_lt_of_le hbo hO.size
  exact ⟨hO.trans (Off.of_below hb), v, (hb.cell (by exact hbw)).trans hc, (hb.frozen (by exact hbw)).trans hf, hown.kept (row := none) ⟨hb.os, hb.tape, hb.output, hb.size, fun k hk _ => hb.block k hk⟩ (by
    cases hv : v.ownBlock with
    | none => exact Or.inl rfl
    | some k => exact Or.inr (fun e => by cases e))⟩

theorem flat_take (ks : List Int) (sub : Int → List Int) (q : Nat) (hq : q < ks.length) : (ks.take (q + 1)).flatMap sub = (ks.take q).flatMap sub ++ sub (ks.getD q 0) := by
  rw [List.take_succ_eq_append_getElem hq, List.flatMap_append, getD_elem ks 0 hq]
  simp
theorem flat_take_le (ks : List Int) (sub : Int → List Int) (q : Nat) : ((ks.take q).flatMap sub).length ≤ (ks.flatMap sub).length := by
  have h := List.take_append_drop q ks
  have : (ks.flatMap sub).length = ((ks.take q).flatMap sub).length + ((ks.drop q).flatMap sub).length := by
    rw [← List.length_append, ← List.flatMap_append, h]
  omega

end Go.Proofs.Ytplkfacaphejgaa

namespace Go.Proofs.Ytplkfacaphejgaa
open Go.RowKit

theorem order_low {w w1 : World} {a : Option Addr} {n c : Nat} {p u : Int} {o3 : Obj} (hb : Below (w.heap.size + 1 + 1 + 1) (((w.alloc (.cells #[.slice a n c] 24)).alloc (.cells #[.int .i64 p, .int .i64 u] 27)).alloc o3) w1) :
    w1.cell? ⟨w.heap.size, 0, none⟩ = some (.slice a n c) ∧ w1.cell? ⟨w.heap.size + 1, 0, none⟩ = some (.int .i64 p) ∧ w1.cell? ⟨w.heap.size + 1, 1, none⟩ = some (.int .i64 u) :=
  ⟨(hb.cell (by simp; omega)).trans (by go_simp), (hb.cell (by simp)).trans (by go_simp), (hb.cell (by simp)).trans (by go_simp)⟩

theorem two_more {w1 : World} {p : Addr} {v : Value} (h : w1.cell? p = some v) (o1 o2 : Obj) : ((w1.alloc o1).alloc o2).cell? p = some v :=
  ((((Below.refl _ _).alloc (Nat.le_refl _) o1).alloc (by simp) o2).cell (World.block_lt_of_cell? _ _ h)).trans h

theorem hands_one (W : World) (b : Nat) (p u : Int) (h1 : W.cell? ⟨b, 0, none⟩ = some (.int .i64 p)) (h2 : W.cell? ⟨b, 1, none⟩ = some (.int .i64 u)) : HandsAt W (some ⟨b, 0, none⟩) [(p, u)] := fun i hi => by
  have : i = 0 := by simpa using hi
  subst this
  exact ⟨b, 0, rfl, by simpa using h1, by simpa using h2⟩

theorem ints_of_own {W w2 : World} {v : Value} {l : List Int} (hown : w2.ownsRow W.heap.size 3 1 v l.length (l.map (Value.int .i64))) : ∃ sa cap, v = .slice sa l.length cap ∧ IntsAt w2 sa l ∧ l.length ≤ cap ∧ cap ≤ 9223372036854775807 := by
  obtain ⟨hl, h⟩ := hown
  rcases h with ⟨rfl, h0⟩ | ⟨g, cap, cur, rfl, _, hg, h1, h2, h3, h4⟩
  · exact ⟨none, 0, by rw [h0], fun i hi => by omega, by omega, by omega⟩
  · refine ⟨some ⟨g, 0, none⟩, cap, rfl, fun i hi => ⟨g, 0, rfl, ?_⟩, h1, by unfold maxLen at h2; omega⟩
    have h5 : (cur.toList.take (l.length * 1))[i]? = some (.int .i64 (l.getD i 0)) := by
      rw [h4, List.getElem?_map, List.getElem?_eq_getElem hi, getD_elem l 0 hi]; rfl
    rw [List.getElem?_take, if_pos (by omega)] at h5
    simp only [Nat.zero_add, World.cell?, hg]
    simpa using h5

end Go.Proofs.Ytplkfacaphejgaa

namespace Go.Proofs.Ytplkfacaphejgaa
open Go.RowKit

theorem infoK : (Try.prog.info? 3).map (fun i => (i.zero, i.size, i.bytes)) = some (some (.int .i64 0), 1, 8) := by kernel_rfl
theorem makeIntsK (n : Nat) (hn : n ≤ 1000000) (w : World) : (Instr.makeSlice 41 (.int .i64 (n : Int)) (.int .i64 (n : Int))).run Try.prog w = .ok (.slice (some ⟨w.heap.size, 0, none⟩) n n) (w.alloc (.cells (madeCells #[.int .i64 0] n) 3)) :=
  run_make_row' (P := Try.prog) 41 3 (.int .i64 0) 8 Try.underlying41 infoK rfl .i64 .i64 n (by omega) (by omega) w
theorem ints_row {w : World} {g t : Nat} {ks : List Int} (h : w.rowIs g t ks.length (fun j => .int .i64 (ks.getD j 0))) : IntsAt w (some ⟨g, 0, none⟩) ks := fun i hi => ⟨g, 0, rfl, by rw [Nat.zero_add]; exact h.cell hi⟩

set_option maxHeartbeats 1000000 in
theorem copyKids_any (ka : Option Addr) (kc : Nat) (ks : List Int) (w : World) (hk : ks.length ≤ 1000000) (hks : IntsAt w ka ks) :
    Calls Try.prog 71 #[.slice ka ks.length kc] w fun e w' => e = .returned (.slice (some ⟨w.heap.size, 0, none⟩) ks.length ks.length) ∧ Below w.heap.size w w' ∧ w'.rowIs w.heap.size 3 ks.length (fun j => .int .i64 (ks.getD j 0)) := by
  have hmk := makeIntsK ks.length hk
  have hsz : (Try.prog.info? 3).map (·.size) = some 1 := by kernel_rfl
  have HKS : Hid (∀ o1, IntsAt (w.alloc o1) ka ks) := fun o1 => hks.below (one_belowS _ _)
  have HG : Hid ((w.alloc (.cells (madeCells #[.int .i64 0] ks.length) 3)).heap[w.heap.size]? = some (.cells (madeCells #[.int .i64 0] ks.length).toList.toArray 3 (0, 0))) := by
    have := heap_alloc_new w (.cells (madeCells #[.int .i64 0] ks.length) 3)
    show _ = _
    simpa using this
  have HP : Hid (∀ o1, 0 < (ks.map (Value.int .i64)).length → some (⟨w.heap.size, 0, none⟩ : Addr) = some ⟨w.heap.size, 0, none⟩ ∧ ∃ ad, ka = some ad ∧ ∀ j v, (ks.map (Value.int .i64))[j]? = some v → (w.alloc o1).cell? (ad.add j) = some v) := fun o1 h0 => by
    refine ⟨rfl, ?_⟩
    obtain ⟨b, o, rfl, _⟩ := HKS.out o1 0 (by simpa using h0)
    refine ⟨_, rfl, fun j v hj => ?_⟩
    obtain ⟨hl, hv⟩ := List.getElem?_eq_some_iff.1 hj
    obtain ⟨b', o', e', hc⟩ := HKS.out o1 j (by simpa using hl)
    cases e'
    rw [List.getElem_map] at hv
    rw [getD_elem ks 0 (by simpa using hl), hv] at hc
    rw [Addr.add_lit]; exact hc
  have HSP : Hid (splice (madeCells #[.int .i64 0] ks.length).toList 0 (ks.map (Value.int .i64)) = ks.map (Value.int .i64)) := by
    show splice _ _ _ = _
    simp [splice, size_madeCells]
  clear hks
  go_enter Try.func71, Try.ntmps71
  go_wp2_with (refine wpList_copy_splice rfl (.tmp 7) (.tmp 8) 41 41 rfl 3 Try.underlying41 hsz (some ⟨w.heap.size, 0, none⟩) ka ks.length ks.length ks.length kc rfl rfl w.heap.size 0 (madeCells #[.int .i64 0] ks.length).toList 3 HG.out (ks.map (Value.int .i64)) (by simp) (HP.out _) (by simp [size_madeCells]) (by intro v hv; simp at hv; obtain ⟨y, _, rfl⟩ := hv; rfl) w.heap.size _ (Below.refl _ _) (Nat.le_refl _) ?_)
  intro w3 hw3 hb3
  have HW3 : Hid (w3.rowIs w.heap.size 3 ks.length (fun j => .int .i64 (ks.getD j 0))) := by
    refine ⟨_, hw3.out, ?_, fun i hi => ?_⟩
    · rw [HSP.out]; simp
    · rw [HSP.out]
      simp [hi]
  have HB3 : Hid (Below w.heap.size w w3) := (one_belowS _ _).trans hb3
  clear hb3 hw3
  go_wp2
  go_ret
  exact ⟨rfl, HB3.out, HW3.out⟩
end Go.Proofs.Ytplkfacaphejgaa

namespace Go.Proofs.Ytplkfacaphejgaa
open Go.RowKit
set_option linter.unusedVariables false

/-- All that lay in w lies in w' as it lay, but for X. -/
structure OffX (X : Nat → Prop) (w w' : World) : Prop where
  size : w.heap.size ≤ w'.heap.size
  block : ∀ b, b < w.heap.size → ¬ X b → w'.heap[b]? = w.heap[b]?
theorem OffX.refl (X : Nat → Prop) (w : World) : OffX X w w := ⟨Nat.le_refl _, fun _ _ _ => rfl⟩
theorem OffX.of_below {X : Nat → Prop} {w w' : World} (h : Below w.heap.size w w') : OffX X w w' := ⟨h.size, fun b hb _ => h.block b hb⟩
theorem OffX.trans {X : Nat → Prop} {w w' w'' : World} (h : OffX X w w') (k : OffX X w' w'') : OffX X w w'' := ⟨Nat.le_trans h.size k.size, fun b hb hx => (k.block b (Nat.lt_of_lt_of_le hb h.size) hx).trans (h.block b hb hx)⟩
theorem OffX.set {X : Nat → Prop} (w : World) {b o : Nat} (v : Value) (h : X b) : OffX X w (w.setCell ⟨b, o, none⟩ v) := ⟨by simp, fun k _ hk => Below.heap_setCell _ _ _ _ (fun e => hk (by rw [e]; exact h))⟩
theorem OffX.grown {X : Nat → Prop} {w w' : World} {r : Option Nat} (h : w.grownBy w' r) (hx : ∀ b, r = some b → X b) : OffX X w w' := ⟨h.size, fun k hk hn => h.block k hk (fun e => hn (hx k e.symm))⟩
/-- X may grow by what was not there. -/
theorem off_grow {X Y : Nat → Prop} {w w1 w' : World} (hs : w.heap.size ≤ w1.heap.size) (hb : ∀ b, b < w.heap.size → ¬ X b → w1.heap[b]? = w.heap[b]?) (hY : ∀ b, b < w.heap.size → Y b → X b) (h : OffX Y w1 w') : OffX X w w' := ⟨Nat.le_trans hs h.size, fun b h1 h2 => (h.block b (Nat.lt_of_lt_of_le h1 hs) (fun hy => h2 (hY b h1 hy))).trans (hb b h1 h2)⟩
theorem OffX.mono {X Y : Nat → Prop} {w w' : World} (h : OffX X w w') (hXY : ∀ b, X b → Y b) : OffX Y w w' := ⟨h.size, fun b hb hy => h.block b hb (fun hx => hy (hXY b hx))⟩
/-- What stays so, whatever becomes of X. -/
def St (X : Nat → Prop) (P : World → Prop) (w : World) : Prop := ∀ w', OffX X w w' → P w'
theorem St.off {X : Nat → Prop} {P : World → Prop} {w w' : World} (h : St X P w) (ho : OffX X w w') : St X P w' := fun w'' h2 => h w'' (ho.trans h2)
theorem St.at {X : Nat → Prop} {P : World → Prop} {w : World} (h : St X P w) : P w := h w (OffX.refl X w)
theorem St.less {X Y : Nat → Prop} {P : World → Prop} {w : World} (h : St Y P w) (hXY : ∀ b, X b → Y b) : St X P w := fun w' ho => h w' (ho.mono hXY)
theorem St.grow {X Y : Nat → Prop} {P : World → Prop} {w w1 : World} (h : St X P w) (ho : OffX X w w1) (hY : ∀ b, b < w.heap.size → Y b → X b) : St Y P w1 := fun w' h2 => h w' (off_grow ho.size ho.block hY h2)
theorem St.imp {X : Nat → Prop} {P Q : World → Prop} {w : World} (h : St X P w) (hPQ : ∀ V, P V → Q V) : St X Q w := fun w' ho => hPQ w' (h w' ho)
theorem St.and {X : Nat → Prop} {P Q : World → Prop} {w : World} (h : St X P w) (k : St X Q w) : St X (fun V => P V ∧ Q V) w := fun w' ho => ⟨h w' ho, k w' ho⟩
end Go.Proofs.Ytplkfacaphejgaa

namespace Go.Proofs
open Go.Shelf
def Try.lays21_ren : Go.Shelf.Ren := ⟨fun | 21 => 66 | 27 => 76 | 28 => 77 | 35 => 81 | 39 => 85 | n => n, fun | 22 => 41 | 3 => 3 | 4 => 4 | 0 => 0 | n => n, fun | n => n⟩
theorem Try.lays21 : Go.Proofs.Lays2.n21 Try.prog Try.lays21_ren := {
  mixed := by kernel_rfl
  f21 := Try.func66.trans (congrArg some (by kernel_rfl))
  f27 := Try.func76.trans (congrArg some (by kernel_rfl))
  f28 := Try.func77.trans (congrArg some (by kernel_rfl))
  f35 := Try.func81.trans (congrArg some (by kernel_rfl))
  f39 := Try.func85.trans (congrArg some (by kernel_rfl))
  t0 := Try.underlying0
  a0 := Try.isAgg0
  z0 := Try.sizeOf0
  v0 := Try.zeroValue0
  t3 := Try.underlying3
  a3 := Try.isAgg3
  z3 := Try.sizeOf3
  v3 := Try.zeroValue3
  t4 := Try.underlying4
  a4 := Try.isAgg4
  z4 := Try.sizeOf4
  v4 := Try.zeroValue4
  t22 := Try.underlying41
  a22 := Try.isAgg41
  z22 := Try.sizeOf41
  v22 := Try.zeroValue41
  i3 := by kernel_rfl }
def Try.laysSlH10_del_ren : Go.Shelf.Ren := ⟨fun | 10 => 64 | 6 => 75 | n => n, fun | 22 => 41 | 23 => 3 | 25 => 96 | 3 => 3 | 4 => 4 | 0 => 0 | n => n, fun | n => n⟩
theorem Try.laysSlH10_del : Go.Proofs.SlLaysH.n10 Try.prog Try.laysSlH10_del_ren := {
  mixed := by kernel_rfl
  f6 := ⟨Try.f75.name, by decide, Try.func75.trans (congrArg some (by kernel_rfl))⟩
  f10 := ⟨Try.f64.name, by decide, Try.func64.trans (congrArg some (by kernel_rfl))⟩
  t0 := Try.underlying0
  a0 := Try.isAgg0
  z0 := Try.sizeOf0
  v0 := Try.zeroValue0
  t3 := Try.underlying3
  a3 := Try.isAgg3
  z3 := Try.sizeOf3
  v3 := Try.zeroValue3
  t4 := Try.underlying4
  a4 := Try.isAgg4
  z4 := Try.sizeOf4
  v4 := Try.zeroValue4
  t22 := Try.underlying41
  a22 := Try.isAgg41
  z22 := Try.sizeOf41
  v22 := Try.zeroValue41
  a23 := Try.isAgg3
  z23 := Try.sizeOf3
  t25 := Try.underlying96
  a25 := Try.isAgg96
  z25 := Try.sizeOf96
  v25 := Try.zeroValue96 }
end Go.Proofs
