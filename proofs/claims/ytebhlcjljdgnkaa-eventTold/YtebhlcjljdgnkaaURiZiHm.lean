/-
  The reference's Made.
-/
import Derived.Test.YtebhlcjljdgnkaaUZpRdRbRhTmHc
import Derived.Test.YtebhlcjljdgnkaaUTdTe
import Derived.Test.YtebhlcjljdgnkaaUXa
import Derived.Test.YtebhlcjljdgnkaaURpZgZc
import Derived.Test.YtebhlcjljdgnkaaUZe
import Derived.Test.YtebhlcjljdgnkaaUWc
import Derived.Test.YtebhlcjljdgnkaaUZaHk
import Derived.RangeFuncNested
import Derived.RangeFuncBound
import Derived.RangeFuncCalls
import Derived.RangeFuncLeaves
import Derived.Shelf.Abstract
import Derived.WalkKit
import Derived.OwnWalkIn
import Derived.TacticsInMore
import Derived.LoopNIn
import Derived.LoopIn
namespace Go.Proofs.Ytebhlcjljdgnkaa
open Go.RowKit

/-- Behind OwnStore, in a function with three boxes: the row, and what is known of the boxes. -/
theorem own_after {w w1 w2 : World} {a : Option Addr} {c n : Nat} {S : List Nd} {K : Nat → Value} {v : Value} (h0 : 0 < n) (hb1 : Below (w.heap.size + 1 + 1 + 1) (((w.alloc (.cells #[.slice a n c] 24)).alloc (.cells #[.slice none 0 0] 24)).alloc (.cells #[.int .i64 0, .int .i64 0] 27)) w1) (hb2 : Below w1.heap.size w1 w2) (hown : OwnK w1.heap.size S n K v w2) :
    ∃ g cap, v = .slice (some ⟨g, 0, none⟩) n cap ∧ w.heap.size + 3 ≤ g ∧ g < w2.heap.size ∧ n ≤ cap ∧ cap ≤ 9223372036854775807 ∧ OwnK (w.heap.size + 3) S n K (.slice (some ⟨g, 0, none⟩) n cap) (w2.setCell ⟨w.heap.size, 0, none⟩ (.slice (some ⟨g, 0, none⟩) n cap)) ∧
    Below w.heap.size w (w2.setCell ⟨w.heap.size, 0, none⟩ (.slice (some ⟨g, 0, none⟩) n cap)) ∧ (w2.cell? ⟨w.heap.size, 0, none⟩ = some (.slice a n c) ∧ w2.frozen? ⟨w.heap.size, 0, none⟩ = false) ∧
    w2.cell? ⟨w.heap.size + 1, 0, none⟩ = some (.slice none 0 0) ∧ w2.cell? ⟨w.heap.size + 1 + 1, 0, none⟩ = some (.int .i64 0) ∧ w2.cell? ⟨w.heap.size + 1 + 1, 1, none⟩ = some (.int .i64 0) ∧
    w2.frozen? ⟨w.heap.size + 1, 0, none⟩ = false ∧ w2.frozen? ⟨w.heap.size + 1 + 1, 0, none⟩ = false ∧ w2.frozen? ⟨w.heap.size + 1 + 1, 1, none⟩ = false := by
  have hs1 := hb1.size
  simp only [World.size_alloc] at hs1
  have hb3 : Below (w.heap.size + 1 + 1 + 1) _ w2 := hb1.trans (hb2.mono (by omega))
  obtain ⟨l0, l1, l2, l3, z1, z2, z3⟩ := make_low hb3
  have z0 : w2.frozen? ⟨w.heap.size, 0, none⟩ = false := (hb3.frozen (by simp; omega)).trans (by go_simp)
  have hm := hown.1
  obtain ⟨g, cap, rfl, h1, h2, h3, h4⟩ : ∃ g cap, v = .slice (some ⟨g, 0, none⟩) n cap ∧ w1.heap.size ≤ g ∧ g < w2.heap.size ∧ n ≤ cap ∧ cap ≤ 9223372036854775807 := by
    have hl := hm.lt
    rcases hm.2 with ⟨_, h⟩ | ⟨g, cap, cur, h, h1, _, h3, h4, _⟩
    · omega
    · subst h
      exact ⟨g, cap, rfl, h1, (hl g rfl).2, h3, by unfold maxLen at h4; omega⟩
  refine ⟨g, cap, rfl, by omega, h2, h3, h4, ?_, ?_, ⟨l0, z0⟩, l1, l2, l3, z1, z2, z3⟩
  · have ho : OwnK (w.heap.size + 3) S n K (.slice (some ⟨g, 0, none⟩) n cap) w2 := ⟨ownsRow_baseL hown.1 (by omega), fun i hi => ownsRow_baseL (hown.2 i hi) (by omega)⟩
    exact ho.other (fun b hb _ => Below.heap_setCell _ _ _ _ (by simp; omega))
  · exact ((three_below _ _ _ _).trans (hb3.mono (by omega))).setCell (by simp) _

theorem cell_else {W : World} {g o1 b o : Nat} {u v : Value} (hb : b ≠ g) (h : W.cell? ⟨b, o, none⟩ = some v) : (W.setCell ⟨g, o1, none⟩ u).cell? ⟨b, o, none⟩ = some v :=
  (World.cell?_of_block (Below.heap_setCell _ _ _ _ hb)).trans h
theorem frozen_else {W : World} {a b : Addr} {u : Value} (h : W.frozen? b = false) : (W.setCell a u).frozen? b = false := by
  rw [World.frozen?_setCell]; exact h

end Go.Proofs.Ytebhlcjljdgnkaa

namespace Go.Proofs.Ytebhlcjljdgnkaa
open Go.RowKit

theorem s5_wfZi : WF S5 := (wf_iff _).1 (by decide)
def S6 : List Nd := S5.set 3 (rootNd (nd S5 3) 1 true)
def S7 : List Nd := enterS (leaveG S6 2) 3 2 0
theorem s6_wf : WF S6 := (wf_iff _).1 (by decide)
theorem s7_wf : WF S7 := (wf_iff _).1 (by decide)
theorem s6_check : tcheckE S6 [(((3 : Nat) : Int), 1), (((2 : Nat) : Int), 1)] = 0 := by decide
theorem s7_a : seenF S7 0 2 = false := by decide
theorem s7_b : seenF S7 3 2 = true := by decide
theorem s7_p : pathF S7 2 = [2, 3, 1, 0] := by decide
theorem s7_t : targetF S7 2 0 = 1 := by decide
theorem s7_0 : findE S7 ((0 : Nat) : Int) 1 = 0 := by decide
theorem s7_2 : findE S7 ((2 : Nat) : Int) 1 = 0 := by decide
theorem s7_3 : findE S7 ((3 : Nat) : Int) 1 = 0 := by decide
theorem s5_f1 : findE S5 ((1 : Nat) : Int) 1 = 0 := by decide

/-- The variables of veiled: the store, the hands, the root's hand. -/
def VL (X : World) (bs bh br g : Nat) : Prop :=
  (X.cell? ⟨bs, 0, none⟩ = some (.slice (some ⟨g, 0, none⟩) 6 6) ∧ (∀ o, X.frozen? ⟨bs, o, none⟩ = false)) ∧ (X.cell? ⟨bh, 0, none⟩ = some (.int .i64 0) ∧ X.cell? ⟨bh, 1, none⟩ = some (.int .i64 1) ∧ X.cell? ⟨bh, 2, none⟩ = some (.int .i64 1) ∧ X.cell? ⟨bh, 3, none⟩ = some (.int .i64 1) ∧ X.cell? ⟨bh, 4, none⟩ = some (.int .i64 2) ∧ X.cell? ⟨bh, 5, none⟩ = some (.int .i64 1)) ∧ (X.cell? ⟨br, 0, none⟩ = some (.int .i64 3) ∧ X.cell? ⟨br, 1, none⟩ = some (.int .i64 1))

theorem VL.below {X Y : World} {bs bh br g : Nat} (h : VL X bs bh br g) (hb : Below X.heap.size X Y) : VL Y bs bh br g := by
  obtain ⟨⟨a0, a1⟩, ⟨b0, b1, b2, b3, b4, b5⟩, c0, c1⟩ := h
  have l0 := World.block_lt_of_cell? _ _ a0
  have l1 := World.block_lt_of_cell? _ _ b0
  have l2 := World.block_lt_of_cell? _ _ c0
  exact ⟨⟨(hb.cell l0).trans a0, fun o => (hb.frozen (p := ⟨bs, o, none⟩) l0).trans (a1 o)⟩, ⟨(hb.cell (p := ⟨bh, 0, none⟩) l1).trans b0, (hb.cell (p := ⟨bh, 1, none⟩) l1).trans b1, (hb.cell (p := ⟨bh, 2, none⟩) l1).trans b2, (hb.cell (p := ⟨bh, 3, none⟩) l1).trans b3, (hb.cell (p := ⟨bh, 4, none⟩) l1).trans b4, (hb.cell (p := ⟨bh, 5, none⟩) l1).trans b5⟩, (hb.cell (p := ⟨br, 0, none⟩) l2).trans c0, (hb.cell (p := ⟨br, 1, none⟩) l2).trans c1⟩

theorem VL.set {X : World} {bs bh br g g' : Nat} (h : VL X bs bh br g) (h1 : bs ≠ bh) (h2 : bs ≠ br) : VL (X.setCell ⟨bs, 0, none⟩ (.slice (some ⟨g', 0, none⟩) 6 6)) bs bh br g' := by
  obtain ⟨⟨a0, a1⟩, ⟨b0, b1, b2, b3, b4, b5⟩, c0, c1⟩ := h
  refine ⟨⟨World.cell?_setCell_same _ _ _ a0, fun o => by rw [World.frozen?_setCell]; exact a1 o⟩, ⟨?_, ?_, ?_, ?_, ?_, ?_⟩, ?_, ?_⟩
  all_goals
    rw [World.cell?_setCell_other _ _ _ _ (addr_block (by first | exact h1 | exact h2))]
    assumption

end Go.Proofs.Ytebhlcjljdgnkaa

namespace Go.Proofs.Ytebhlcjljdgnkaa
open Go.RowKit Go.Shelf
attribute [local go_sem] Oper.semAt_some
set_option linter.unusedVariables false

/-- What is left when the last m have not come yet. -/
def lastF (zs : List Int) (m : Nat) : List Int := (zs.drop m).reverse
theorem last_step {zs : List Int} {m : Nat} (h : m < zs.length) : lastF zs m = lastF zs (m + 1) ++ [zs[m]?.getD 0] := by
  unfold lastF
  rw [List.drop_eq_getElem_cons h, List.reverse_cons]
  simp [h]

/-- What a round leaves as it was: two blocks. -/
def KeepTwo (p q : Nat) (A B : World) : Prop := B.heap[p]? = A.heap[p]? ∧ B.heap[q]? = A.heap[q]?

set_option maxRecDepth 100000 in
set_option maxHeartbeats 2000000 in
theorem back1_in (F : Fence) (n : Nat) (hf : F.fn 58) (hro : F.round = none) (hn : 1 ≤ n) (l Bs b off cap : Nat) (zs : List Int) (hlen : zs.length ≤ 1000000) (J Jx : List (Nat × Int) → World → Prop)
    (hY : ∀ pre x W, J pre W → pre.length < zs.length → YieldAt F (n - 1) Try.prog l #[.int .i64 (x.1 : Int), .int .i64 x.2] W fun e W' =>
      (e = .returned (.bool true) ∧ J (pre ++ [x]) W' ∧ KeepTwo Bs b W W') ∨ (e = .returned (.bool false) ∧ Jx (pre ++ [x]) W'))
    (W : World) (hBs : W.cell? ⟨Bs, 0, none⟩ = some (.slice (some ⟨b, off, none⟩) zs.length cap)) (hc : ∀ j, j < zs.length → W.cell? ⟨b, off + j, none⟩ = some (.int .i64 (zs[j]?.getD 0))) (h0 : J [] W) :
    CallsIn F n Try.prog 58 #[.func (.yield l) #[] #[], .pointer (some ⟨Bs, 0, none⟩)] W fun e W' => (∃ v, e = .returned v) ∧
      ((∃ ys, ys.map Prod.snd = zs.reverse ∧ J ys W') ∨ (∃ pre, (∃ m, m ≤ zs.length ∧ pre.map Prod.snd = lastF zs m) ∧ Jx pre W')) := by
  have LS : Hid (∀ m, m < zs.length → lastF zs m = lastF zs (m + 1) ++ [zs[m]?.getD 0]) := fun m h => last_step h
  have L0 : Hid (lastF zs 0 = zs.reverse) := rfl
  have LE : Hid (lastF zs zs.length = []) := (by unfold lastF; simp : lastF zs zs.length = [])
  obtain ⟨len, hl⟩ : ∃ len, zs.length = len := ⟨_, rfl⟩
  rw [hl] at hlen hY hBs hc LS LE ⊢
  clear hl
  refine callsIn_of_wp Try.func58 rfl hf ?_ hro
  simp only [Try.ntmps58, List.size_toArray, List.length_cons, List.length_nil, Nat.reduceAdd, Nat.reduceSub, Array.replicate_succ, Array.replicate_zero, List.push_toArray, List.append_toArray, List.nil_append, List.cons_append]
  gi_wp2
  gi_loopw [3] (fun i wr => ∃ (m : Nat) (pre : List (Nat × Int)), m ≤ len ∧ i = .int .i64 ((m : Int) - 1) ∧ pre.length = len - m ∧ pre.map Prod.snd = lastF zs m ∧ J pre wr ∧ KeepTwo Bs b W wr)
    (fun i _ => (intOf i + 1).toNat)
  case atStart => exact ⟨len, [], Nat.le_refl _, rfl, by simp, LE.out.symm, h0, rfl, rfl⟩
  case round =>
    obtain ⟨m, pre, hm, rfl, hpl, hpm, hJ, hk1, hk2⟩ := hrel
    have hbs : wr.cell? ⟨Bs, 0, none⟩ = some (.slice (some ⟨b, off, none⟩) len cap) := (World.cell?_of_block hk1).trans hBs
    cases m with
    | zero =>
      have hneg : ¬ (0 : Int) ≤ ((0 : Nat) : Int) - 1 := by omega
      gi_wp2
      go_end0
      exact ⟨⟨_, rfl⟩, .inl ⟨pre, hpm.trans L0.out, hJ⟩⟩
    | succ m =>
      have e1 : (((m + 1 : Nat) : Int)) - 1 = (m : Int) := by omega
      rw [e1]
      have hcx : wr.cell? ⟨b, off + m, none⟩ = some (.int .i64 (zs[m]?.getD 0)) := (World.cell?_of_block hk2).trans (hc m (by omega))
      obtain ⟨fn, tmps, assign, body, hy, hR⟩ := hY pre (m, zs[m]?.getD 0) wr hJ (by omega)
      dsimp only at hy
      have hpos : (0 : Int) ≤ (m : Int) := by omega
      have hlt : (m : Int) < (len : Int) := by omega
      gi_wp2
      refine hR.mono ?_
      rintro e W3 (⟨rfl, hJ3, hk3⟩ | ⟨rfl, hJx3⟩)
      · gi_wp2
        go_roundw
        case rel => exact ⟨m, pre ++ [(m, zs[m]?.getD 0)], by omega, by simp, by simp; omega, by rw [List.map_append, hpm, LS.out m (by omega)]; rfl, hJ3, hk3.1.trans hk1, hk3.2.trans hk2⟩
        case measure => simp [intOf]
      · gi_wp2
        refine bodyPost_ret (results_none rfl _ _ _) rfl ?_
        exact ⟨⟨_, rfl⟩, .inr ⟨pre ++ [(m, zs[m]?.getD 0)], ⟨m, by omega, by rw [List.map_append, hpm, LS.out m (by omega)]; rfl⟩, hJx3⟩⟩

set_option maxHeartbeats 1000000 in
theorem back_in (F : Fence) (n : Nat) (hf : F.fn 37) (hro : F.round = none) (a : Option Addr) (len cap : Nat) (w : World) :
    CallsIn F n Try.prog 37 #[.slice a len cap] w fun e w' => e = .returned (.func (.func 58) #[] #[.pointer (some ⟨w.heap.size, 0, none⟩)]) ∧ w' = w.alloc (.cells #[.slice a len cap] 33) := by
  refine callsIn_of_wp Try.func37 rfl hf ?_ hro
  simp only [Try.ntmps37, List.size_toArray, List.length_cons, List.length_nil, Nat.reduceAdd, Nat.reduceSub, Array.replicate_succ, Array.replicate_zero, List.push_toArray, List.append_toArray, List.nil_append, List.cons_append]
  gi_wp2
  go_ret
  exact ⟨rfl, rfl⟩

theorem back_stops (F : Fence) (n : Nat) (hf : F.fn 58) (hro : F.round = none) (hn : 1 ≤ n) (Bs b off cap : Nat) (zs : List Int) (hlen : zs.length ≤ 1000000) (w : World) (hBs : w.cell? ⟨Bs, 0, none⟩ = some (.slice (some ⟨b, off, none⟩) zs.length cap)) (hI : IntsAt w (some ⟨b, off, none⟩) zs) :
    SeqStopsK F n Try.prog 58 #[.pointer (some ⟨Bs, 0, none⟩)] (fun x : Nat × Int => #[Value.int .i64 (x.1 : Int), Value.int .i64 x.2]) (KeepTwo Bs b) (fun ys => ys.map Prod.snd = zs.reverse) (fun pre => ∃ m, m ≤ zs.length ∧ pre.map Prod.snd = lastF zs m) zs.length w := fun l J Jx W hW _ _ hY h0 => by
  refine back1_in F n hf hro hn l Bs b off cap zs hlen J Jx hY W ((hW.cell (World.block_lt_of_cell? _ _ hBs)).trans hBs) (fun j hj => ?_) h0
  obtain ⟨b', o', e, hc⟩ := hI j hj
  cases e
  rw [(hW.cell (World.block_lt_of_cell? _ _ hc)).trans hc]
  rw [List.getD_eq_getElem?_getD]
end Go.Proofs.Ytebhlcjljdgnkaa
