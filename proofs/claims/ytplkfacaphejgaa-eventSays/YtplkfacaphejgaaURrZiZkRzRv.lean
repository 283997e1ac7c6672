/-
  The reference's Attached.
-/
import Derived.Test.YtplkfacaphejgaaURpRjTmZc
import Derived.Test.YtplkfacaphejgaaUTk
import Derived.Test.YtplkfacaphejgaaUZf
import Derived.Test.YtplkfacaphejgaaUZg
import Derived.Test.YtplkfacaphejgaaURqZe
import Derived.Test.YtplkfacaphejgaaUWc
import Derived.Test.YtplkfacaphejgaaUTdTe
import Derived.Test.YtplkfacaphejgaaUSaBa
import Derived.Test.YtplkfacaphejgaaUXdRbRh
import Derived.Test.YtplkfacaphejgaaUZpRdRi
import Derived.Test.YtplkfacaphejgaaUUaSo
import Derived.Test.YtplkfacaphejgaaUWbWdSr
import Derived.Maps.AppendAt
namespace Go.Proofs.Ytplkfacaphejgaa
open Go.RowKit

theorem ratt_low {w w1 : World} {a : Option Addr} {n c : Nat} {p u : Int} (hb : Below (w.heap.size + 1 + 1 + 1 + 1) ((((w.alloc (.cells #[.slice a n c] 24)).alloc (.cells #[.int .i64 p, .int .i64 u] 27)).alloc (.cells #[.slice none 0 0] 24)).alloc (.cells #[.int .i64 0, .int .i64 0] 27)) w1) :
    (w1.cell? ⟨w.heap.size, 0, none⟩ = some (.slice a n c) ∧ w1.cell? ⟨w.heap.size + 1, 0, none⟩ = some (.int .i64 p) ∧ w1.cell? ⟨w.heap.size + 1, 1, none⟩ = some (.int .i64 u) ∧ w1.cell? ⟨w.heap.size + 1 + 1, 0, none⟩ = some (.slice none 0 0) ∧ w1.cell? ⟨w.heap.size + 1 + 1 + 1, 0, none⟩ = some (.int .i64 0) ∧ w1.cell? ⟨w.heap.size + 1 + 1 + 1, 1, none⟩ = some (.int .i64 0)) ∧ ((∀ o, w1.frozen? ⟨w.heap.size, o, none⟩ = false) ∧ (∀ o, w1.frozen? ⟨w.heap.size + 1 + 1, o, none⟩ = false) ∧ (∀ o, w1.frozen? ⟨w.heap.size + 1 + 1 + 1, o, none⟩ = false)) ∧ w.heap.size + 4 ≤ w1.heap.size ∧ Below w.heap.size w w1 := by
  have hs := hb.size
  simp only [World.size_alloc] at hs
  refine ⟨⟨?_, ?_, ?_, ?_, ?_, ?_⟩, ⟨fun o => ?_, fun o => ?_, fun o => ?_⟩, by omega, (four_below _ _ _ _ _).trans (hb.mono (by omega))⟩
  all_goals first | exact (hb.cell (by first | (simp; done) | (simp; omega))).trans (by go_simp) | exact (hb.frozen (by first | (simp; done) | (simp; omega))).trans (by go_simp)

end Go.Proofs.Ytplkfacaphejgaa

namespace Go.Proofs.Ytplkfacaphejgaa
open Go.RowKit

theorem s5_wfZi : WF S5 := (wf_iff _).1 (by decide)
def S6 : List Nd := S5.set 3 (rootNd (nd S5 3) 1 true)
def S7 : List Nd := enterS (leaveG S6 2) 3 2 0
theorem s6_wf : WF S6 := (wf_iff _).1 (by decide)
theorem s7_wf : WF S7 := (wf_iff _).1 (by decide)
theorem s6_check : tcheckE S6 [(((3 : Nat) : Int), 1), (((2 : Nat) : Int), 1)] = 0 := by decide
theorem s7_a : seenF S7 0 2 = false := by decide
theorem s7_b : seenF S7 3 2 = true := by decide
theorem s7_p : pathF S7 2 = [2, 3, 1, 0] := by decide
theorem s7_t : targetF S7 2 0 = 1 := by decide
theorem s7_0 : findE S7 ((0 : Nat) : Int) 1 = 0 := by decide
theorem s7_2 : findE S7 ((2 : Nat) : Int) 1 = 0 := by decide
theorem s7_3 : findE S7 ((3 : Nat) : Int) 1 = 0 := by decide
theorem s5_f1 : findE S5 ((1 : Nat) : Int) 1 = 0 := by decide

/-- The variables of veiled: the store, the hands, the root's hand. -/
def VL (X : World) (bs bh br g : Nat) : Prop :=
  (X.cell? ⟨bs, 0, none⟩ = some (.slice (some ⟨g, 0, none⟩) 6 6) ∧ (∀ o, X.frozen? ⟨bs, o, none⟩ = false)) ∧ (X.cell? ⟨bh, 0, none⟩ = some (.int .i64 0) ∧ X.cell? ⟨bh, 1, none⟩ = some (.int .i64 1) ∧ X.cell? ⟨bh, 2, none⟩ = some (.int .i64 1) ∧ X.cell? ⟨bh, 3, none⟩ = some (.int .i64 1) ∧ X.cell? ⟨bh, 4, none⟩ = some (.int .i64 2) ∧ X.cell? ⟨bh, 5, none⟩ = some (.int .i64 1)) ∧ (X.cell? ⟨br, 0, none⟩ = some (.int .i64 3) ∧ X.cell? ⟨br, 1, none⟩ = some (.int .i64 1))

theorem VL.below {X Y : World} {bs bh br g : Nat} (h : VL X bs bh br g) (hb : Below X.heap.size X Y) : VL Y bs bh br g := by
  obtain ⟨⟨a0, a1⟩, ⟨b0, b1, b2, b3, b4, b5⟩, c0, c1⟩ := h
  have l0 := World.block_lt_of_cell? _ _ a0
  have l1 := World.block_lt_of_cell? _ _ b0
  have l2 := World.block_lt_of_cell? _ _ c0
  exact ⟨⟨(hb.cell l0).trans a0, fun o => (hb.frozen (p := ⟨bs, o, none⟩) l0).trans (a1 o)⟩, ⟨(hb.cell (p := ⟨bh, 0, none⟩) l1).trans b0, (hb.cell (p := ⟨bh, 1, none⟩) l1).trans b1, (hb.cell (p := ⟨bh, 2, none⟩) l1).trans b2, (hb.cell (p := ⟨bh, 3, none⟩) l1).trans b3, (hb.cell (p := ⟨bh, 4, none⟩) l1).trans b4, (hb.cell (p := ⟨bh, 5, none⟩) l1).trans b5⟩, (hb.cell (p := ⟨br, 0, none⟩) l2).trans c0, (hb.cell (p := ⟨br, 1, none⟩) l2).trans c1⟩

theorem VL.set {X : World} {bs bh br g g' : Nat} (h : VL X bs bh br g) (h1 : bs ≠ bh) (h2 : bs ≠ br) : VL (X.setCell ⟨bs, 0, none⟩ (.slice (some ⟨g', 0, none⟩) 6 6)) bs bh br g' := by
  obtain ⟨⟨a0, a1⟩, ⟨b0, b1, b2, b3, b4, b5⟩, c0, c1⟩ := h
  refine ⟨⟨World.cell?_setCell_same _ _ _ a0, fun o => by rw [World.frozen?_setCell]; exact a1 o⟩, ⟨?_, ?_, ?_, ?_, ?_, ?_⟩, ?_, ?_⟩
  all_goals
    rw [World.cell?_setCell_other _ _ _ _ (addr_block (by first | exact h1 | exact h2))]
    assumption

end Go.Proofs.Ytplkfacaphejgaa

namespace Go.Proofs.Ytplkfacaphejgaa
open Go.RowKit

theorem find_used {S : List Nd} {p u : Int} (h : findE S p u = 0) : WF S ∧ ∃ k : Nat, p = k ∧ k < S.length ∧ (nd S k).u = true ∧ (nd S k).n = u := by
  obtain ⟨hc, hh⟩ := find_parts h
  refine ⟨(wf_iff S).1 hc, ?_⟩
  unfold holdsE at hh
  cases hq : isPl S.length p with
  | false => rw [hq, if_neg (by simp)] at hh; omega
  | true =>
    have hq' : 0 ≤ p ∧ p ≤ (S.length : Int) - 1 := of_decide_eq_true hq
    obtain ⟨k, rfl⟩ : ∃ k : Nat, p = k := ⟨p.toNat, by omega⟩
    rw [hq, if_pos rfl, Int.toNat_natCast] at hh
    unfold holdX at hh
    refine ⟨k, rfl, by omega, ?_⟩
    split at hh
    · split at hh
      · split at hh
        · exact ⟨by assumption, by assumption⟩
        · omega
      · omega
    · omega

theorem find_here {S : List Nd} (wf : WF S) {k : Nat} (hk : k < S.length) (hu : (nd S k).u = true) : findE S k (nd S k).n = 0 := find_zero wf (holds_used hk hu rfl wf)

theorem seen_of_roots {S : List Nd} {p q : Nat} (h : rootsF S p q = []) : seenF S p q = true := by
  unfold seenF
  rw [h]
  rfl

end Go.Proofs.Ytplkfacaphejgaa



namespace Go.Proofs.Ytplkfacaphejgaa
open Go.RowKit

theorem order_fuel' {S : List Nd} (wf : WF S) {p : Nat} (hp : p < S.length) : ∀ {f : Nat}, Deep S f p → ∀ {f' : Nat}, Deep S f' p → orderF S f p = orderF S f' p := by
  intro f
  induction f generalizing p with
  | zero =>
    intro h f' h'
    have h0 : (nd S p).ks = [] := h
    cases f' with
    | zero => rfl
    | succ f' => simp [orderF, h0]
  | succ f ih =>
    intro h f' h'
    cases f' with
    | zero =>
      have h0 : (nd S p).ks = [] := h'
      simp [orderF, h0]
    | succ f' =>
      simp only [orderF]
      congr 1
      refine flatMap_congr' (fun x hx => ?_)
      obtain ⟨k, rfl, h1, _, _, _, h5⟩ := wf.kid_deep hp h hx
      obtain ⟨k', e, _, _, _, _, h6⟩ := wf.kid_deep hp h' hx
      have : k = k' := by omega
      subst this
      rw [Int.toNat_natCast]
      exact ih h1 h5 h6

theorem order_step {S : List Nd} (wf : WF S) {p : Nat} (hp : p < S.length) : orderS S p = (p : Int) :: (nd S p).ks.flatMap fun k => orderS S k.toNat := by
  have hD := wf.deep_all hp
  unfold orderS
  cases hn : S.length with
  | zero => omega
  | succ f =>
    rw [hn] at hD
    rw [orderF]
    congr 1
    refine flatMap_congr' (fun x hx => ?_)
    obtain ⟨k, rfl, h1, _, _, _, h5⟩ := wf.kid_deep hp hD hx
    rw [Int.toNat_natCast]
    have h6 := wf.deep_all h1
    rw [hn] at h6
    exact order_fuel' wf h1 h5 h6

/-- What a stack leads to, its top last. -/
def stkO (S : List Nd) (st : List Int) : List Int := st.reverse.flatMap fun k => orderS S k.toNat

theorem stk_push {S : List Nd} (wf : WF S) {p : Nat} (hp : p < S.length) (st : List Int) : stkO S (st ++ [(p : Int)]) = (p : Int) :: stkO S (st ++ (nd S p).ks.reverse) := by
  unfold stkO
  rw [List.reverse_append, List.reverse_append, List.reverse_reverse]
  simp only [List.reverse_cons, List.reverse_nil, List.nil_append, List.singleton_append, List.flatMap_cons, List.flatMap_append, Int.toNat_natCast]
  rw [order_step wf hp]
  simp

theorem stk_len {S : List Nd} (hpos : ∀ k, 0 < (orderS S k).length) : ∀ st : List Int, st.length ≤ (stkO S st).length := fun st => by
  unfold stkO
  have : ∀ l : List Int, l.length ≤ (l.flatMap fun k => orderS S k.toNat).length := fun l => by
    induction l with
    | nil => simp
    | cons x l ih =>
      rw [List.flatMap_cons, List.length_append, List.length_cons]
      have := hpos x.toNat
      omega
  have := this st.reverse
  rw [List.length_reverse] at this
  exact this

theorem orderS_pos (S : List Nd) (k : Nat) : 0 < (orderS S k).length := by
  unfold orderS
  cases S.length <;> simp [orderF]

/-- A row of the call's own, its last one left out. -/
theorem own_cut {w : World} {B g m cap : Nat} {l : List Int} {x : Int} (hl : l.length = m) (h : w.ownsRow B 3 1 (.slice (some ⟨g, 0, none⟩) (m + 1) cap) (m + 1) ((l ++ [x]).map (Value.int .i64))) : w.ownsRow B 3 1 (.slice (some ⟨g, 0, none⟩) m cap) m (l.map (Value.int .i64)) := by
  obtain ⟨h0, h⟩ := h
  rcases h with ⟨h, _⟩ | ⟨g', cap', cur, e, h1, h2, h3, h4, h5, h6⟩
  · cases h
  · cases e
    refine ⟨by simp [hl], Or.inr ⟨g, cap, cur, rfl, h1, h2, by omega, h4, h5, ?_⟩⟩
    rw [Nat.mul_one] at h6 ⊢
    have h7 : (cur.toList.take (m + 1)).take m = ((l ++ [x]).map (Value.int .i64)).take m := by rw [h6]
    rw [List.take_take, Nat.min_eq_left (by omega), List.map_append, List.take_append_of_le_length (by simp [hl])] at h7
    rw [h7, List.take_of_length_le (by simp [hl])]

theorem own_top {w : World} {B g m cap : Nat} {l : List Int} {x : Int} (hl : l.length = m) (h : w.ownsRow B 3 1 (.slice (some ⟨g, 0, none⟩) (m + 1) cap) (m + 1) ((l ++ [x]).map (Value.int .i64))) : w.cell? ⟨g, m, none⟩ = some (.int .i64 x) ∧ m + 1 ≤ cap ∧ cap ≤ 9223372036854775807 := by
  have hc := h.cellAt m (by omega)
  rcases h.2 with ⟨h, _⟩ | ⟨g', cap', cur, e, h1, h2, h3, h4, _⟩
  · cases h
  · cases e
    refine ⟨?_, h3, by unfold maxLen at h4; omega⟩
    rw [hc, List.map_append, List.getElem?_append_right (by simp [hl])]
    simp [hl]

/-- Another row stays where one is appended to. -/
theorem two_append {W w2 : World} {o1 : Obj} {B e size n' : Nat} {v v2 v' : Value} {xs' : List Value} (h' : W.ownsRow B e size v' n' xs') (ap : ∀ k, v.ownBlock = some k → v'.ownBlock ≠ some k) (hgrow : (W.alloc o1).grownBy w2 v.ownBlock) (hat : v2.ownBlock = v.ownBlock ∨ v2.ownBlock = some (W.alloc o1).heap.size) :
    w2.ownsRow B e size v' n' xs' ∧ ∀ k, v2.ownBlock = some k → v'.ownBlock ≠ some k := by
  refine ⟨owns_block h' (fun k hk => ?_), fun k hk hk' => ?_⟩
  · have hlt := (h'.lt k hk).2
    exact (hgrow.block k (by simp; omega) (fun e => ap k e.symm hk)).trans (Below.heap_alloc _ _ _ hlt)
  · rcases hat with h | h
    · exact ap k (by rw [← h]; exact hk) hk'
    · rw [h] at hk
      have := (h'.lt k hk').2
      simp at hk
      omega

theorem cut_run (g m cap : Nat) (h : m + 1 ≤ cap) : ∀ W, (Instr.slice 41 (.slice (some ⟨g, 0, none⟩) (m + 1) cap) none (some (.int .i64 (m : Int))) none).run Try.prog W = .ok (.slice (some ⟨g, 0, none⟩) m cap) W := fun W => by
  have h1 : (m : Int) ≤ (cap : Int) := by omega
  have h2 : (0 : Int) ≤ (m : Int) := by omega
  first | (go_simp; done) | (go_simp; omega) | (go_simp; intro h; omega)

theorem ord2_low {w w1 : World} {a : Option Addr} {n c : Nat} {p u : Int} {o3 : Obj} (hb : Below (w.heap.size + 1 + 1 + 1) (((w.alloc (.cells #[.slice a n c] 24)).alloc (.cells #[.int .i64 p, .int .i64 u] 27)).alloc o3) w1) :
    w1.cell? ⟨w.heap.size, 0, none⟩ = some (.slice a n c) ∧ w1.cell? ⟨w.heap.size + 1, 0, none⟩ = some (.int .i64 p) ∧ w.heap.size + 3 ≤ w1.heap.size ∧ Below w.heap.size w w1 := by
  have hs := hb.size
  simp only [World.size_alloc] at hs
  exact ⟨(hb.cell (by simp; omega)).trans (by go_simp), (hb.cell (by simp; try omega)).trans (by go_simp), by omega, (three_below _ _ _ _).trans (hb.mono (by omega))⟩

end Go.Proofs.Ytplkfacaphejgaa
