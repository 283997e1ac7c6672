/-
  For SlotOnce, without the program: what is given is given once, and just there.
-/
import Derived.Test.YtlgnapdhnlhkpaaULjTp
import Derived.Test.YtlgnapdhnlhkpaaULqRqRiZcZdZeZi
import Derived.Test.YtlgnapdhnlhkpaaProg
import Derived.Maps.OwnOps
import Derived.Maps.Views
import Derived.Test.YtlgnapdhnlhkpaaUTk
import Derived.Test.YtlgnapdhnlhkpaaUZf
import Derived.Test.YtlgnapdhnlhkpaaUZh
namespace Go.Proofs.Ytlgnapdhnlhkpaa
open Go.RowKit

theorem slotsF_one {S : List Nd} (h : WF S) {H : Nat} {s s' : Slt} (hs : s ∈ slotsF S H) (hs' : s' ∈ slotsF S H) {c : Int} (hc : c ∈ s.gv) (hc' : c ∈ s'.gv) : s = s' := by
  obtain ⟨r, _, _, _, _, e1, _, _, _, _, _, _, m1⟩ := slotsF_mem h hs
  obtain ⟨r', _, _, _, _, e2, _, _, _, _, _, _, m2⟩ := slotsF_mem h hs'
  have : r = r' := by omega
  subst this
  exact slots_one m1 m2 hc hc'

theorem given_facts {S : List Nd} (h : WF S) {k : Nat} (hk : k < S.length) {i : Nat} (hi : i < (slotsF S k).length) {c : Int} (hc : c ∈ (slt (slotsF S k) i).gv) :
    ∃ n : Nat, c = n ∧ n < S.length ∧ (nd S n).u = true ∧ (nd S n).p = k ∧ toF S n = (slt (slotsF S k) i).pl ∧ findE S n (nd S n).n = 0 := by
  have hm : ∀ {j}, j < (slotsF S k).length → slt (slotsF S k) j ∈ slotsF S k := fun hj => by rw [slt_elem hj]; exact List.getElem_mem hj
  obtain ⟨_, _, _, _, _, _, _, _, _, _, _, r6, _⟩ := slotsF_mem h (hm hi)
  have e := r6.resolve_left (fun e => by rw [e] at hc; cases hc)
  have hc2 := hc
  rw [e] at hc2
  obtain ⟨n, rfl, hn, hu, hp, _⟩ := h.kid hk (mem_marked.1 hc2).1
  refine ⟨n, rfl, hn, hu, hp, ?_, find_zero h (holds_used hn hu rfl h)⟩
  unfold toF
  have hP : slotsP S n = slotsF S k := by unfold slotsP; rw [hp, if_neg (by omega), Int.toNat_natCast]
  rw [hP]
  have nd1 := nodup_filter_pl h (H := k)
  refine toL_some hi hc (fun j hj hcj => ?_)
  have e2 := slotsF_one h (hm (show j < (slotsF S k).length by omega)) (hm hi) hcj hc
  have := List.nodup_iff_pairwise_ne.1 nd1
  rw [List.pairwise_iff_getElem] at this
  have h3 := this j i (by rw [List.length_map]; omega) (by rw [List.length_map]; omega) hj
  rw [List.getElem_map, List.getElem_map, ← slt_elem (by omega), ← slt_elem hi, e2] at h3
  exact h3 rfl

theorem given_nodup {S : List Nd} (h : WF S) {k : Nat} (hk : k < S.length) : ((slotsF S k).flatMap Slt.gv).Nodup := by
  have nd1 := nodup_filter_pl h (H := k)
  have nd2 : (slotsF S k).Nodup := by
    rw [List.nodup_iff_pairwise_ne] at nd1 ⊢
    rw [List.pairwise_map] at nd1
    exact nd1.imp (fun hne e => hne (by rw [e]))
  refine nodup_flat _ _ nd2 (fun s hs => ?_) (fun s hs s' hs' hne x hx hx' => hne (slotsF_one h hs hs' hx hx'))
  obtain ⟨_, _, _, _, _, _, _, _, _, _, _, r6, _⟩ := slotsF_mem h hs
  rcases r6 with e | e
  · rw [e]; exact List.nodup_nil
  · rw [e]
    unfold markedF flt
    exact (h.kids_nodup hk).filter _
end Go.Proofs.Ytlgnapdhnlhkpaa

namespace Go.Proofs.Ytlgnapdhnlhkpaa
open Go.ChangeShapes Go.WideShapes

set_option maxRecDepth 100000 in
theorem zeroBool (w : World) : (zeroValue 4).run Try.prog w = .ok (.bool false) w := by kernel_rfl

/-- Block b is a map of at most n entries that says f of every int. -/
def MarksAt (w : World) (b n : Nat) (f : Int → Bool) : Prop :=
  ∃ D : DataW Unit, w.ownsMap Try.prog 3 (plainElem Try.prog 4) b n D ∧ Maps.IsMap D ∧ ∀ k : Int, (Lit.int .i64 k).wf = true → D.atKey (.int .i64 k) (.lit (.bool false)) = .lit (.bool (f k))

theorem MarksAt.made (w : World) : MarksAt (w.alloc (.map #[] 0)) w.heap.size 0 (fun _ => false) :=
  ⟨.map [], World.ownsMap_made w _ _ _, Maps.isMap_empty, fun _ _ => rfl⟩

theorem MarksAt.lt {w : World} {b n : Nat} {f : Int → Bool} (h : MarksAt w b n f) : b < w.heap.size := let ⟨_, h1, _⟩ := h; h1.lt

theorem MarksAt.kept {w w' : World} {b n : Nat} {f : Int → Bool} (h : MarksAt w b n f) (e : w'.heap[b]? = w.heap[b]?) : MarksAt w' b n f := by
  obtain ⟨D, ⟨es, clock, hb, F, hs, hD⟩, h2⟩ := h
  exact ⟨D, ⟨es, clock, e.trans hb, F, hs, hD⟩, h2⟩

theorem plainElem_bool_inv {P : Program} {e : TypeId} (he : P.underlying e = some .bool) {v : Value} {z : DataW Unit × List MemPlace} (h : plainElem P e v = some z) : ∃ x, v = .bool x ∧ z = (.lit (.bool x), []) := by
  unfold plainElem at h
  rw [he] at h
  cases v <;> simp at h
  exact ⟨_, rfl, h.symm⟩

theorem MarksAt.look {w : World} {b n : Nat} {f : Int → Bool} (h : MarksAt w b n f) {t : TypeId} (ht : Try.prog.underlying t = some (.map 3 4)) {k : Int} (hk : (Lit.int .i64 k).wf = true) :
    (Instr.lookup t (.map (some b)) (.int .i64 k) false).run Try.prog w = .ok (.bool (f k)) w := by
  obtain ⟨D, h1, _, h3⟩ := h
  obtain ⟨v, ps, hrun, hv⟩ := h1.lookup (Maps.int_keyed Try.underlying3) ht (zeroBool w) (plainElem_bool Try.underlying4 false) (Maps.keyOf_int_mk Try.underlying3 hk)
  obtain ⟨x, rfl, e⟩ := plainElem_bool_inv Try.underlying4 hv
  rw [h3 k hk] at e
  cases e
  exact hrun

theorem MarksAt.put {w : World} {b n : Nat} {f : Int → Bool} (h : MarksAt w b n f) {t : TypeId} (ht : Try.prog.underlying t = some (.map 3 4)) (hn : n < maxLen) {k : Int} (hk : (Lit.int .i64 k).wf = true) (v : Bool) :
    ∃ w', (Instr.mapUpdate t (.map (some b)) (.int .i64 k) (.bool v)).run Try.prog w = .ok () w' ∧ MarksAt w' b (n + 1) (fun j => if j = k then v else f j) ∧ w.grownBy w' (some b) := by
  obtain ⟨D, h1, h2, h3⟩ := h
  obtain ⟨w', hrun, h4, h5⟩ := h1.update (Maps.int_keyed Try.underlying3) ht hn (Maps.keyOf_int_mk Try.underlying3 hk) (plainElem_bool Try.underlying4 v)
  refine ⟨w', hrun, ⟨_, h4, h2.put _ _, fun j hj => ?_⟩, h5⟩
  by_cases e : j = k
  · subst e
    simp only [if_true]
    exact Maps.atKey_put_same (k := .int .i64 j) h2 (show WideAt.IsKeyLit (.int .i64 j) from trivial) _ _
  · simp only [if_neg e]
    rw [Maps.atKey_put_other (by intro e2; cases e2; exact e rfl)]
    exact h3 j hj

/-- 'm[k]' in the walk. -/
theorem wpList_look_marks (w : World) {ops : Array Oper} {rest : List Oper} {o : Oper} {a : Act} {Q : Exit → Act → World → Prop} (hg : o.guard = none) (m x : Operand) (t : TypeId) (hop : o.op = Op.lookup t m x false)
    (ht : Try.prog.underlying t = some (.map 3 4)) (b n : Nat) (f : Int → Bool) (hm : a.eval m = .map (some b)) (h : MarksAt w b n f) (k : Int) (hx : a.eval x = .int .i64 k) (hk : (Lit.int .i64 k).wf = true)
    (hK : wpList Try.prog ops Q rest (a.put o.dst (.bool (f k))) w) : wpList Try.prog ops Q (o :: rest) a w := by
  refine wpList_plain hg fun K' hK' => ?_
  unfold Oper.wp
  simp [execOp, hop, hm, hx, h.look ht hk, Result.andThen]
  exact hK' _ _ hK

/-- 'm[k] = v' in the walk. -/
theorem wpList_put_marks (w : World) {ops : Array Oper} {rest : List Oper} {o : Oper} {a : Act} {Q : Exit → Act → World → Prop} (hg : o.guard = none) (m x y : Operand) (t : TypeId) (hop : o.op = Op.mapUpdate t m x y)
    (ht : Try.prog.underlying t = some (.map 3 4)) (b n : Nat) (f : Int → Bool) (hm : a.eval m = .map (some b)) (h : MarksAt w b n f) (hn : n < maxLen) (k : Int) (v : Bool) (hx : a.eval x = .int .i64 k) (hy : a.eval y = .bool v) (hk : (Lit.int .i64 k).wf = true)
    (hK : ∀ w', MarksAt w' b (n + 1) (fun j => if j = k then v else f j) → w.grownBy w' (some b) → wpList Try.prog ops Q rest (a.put o.dst undef) w') : wpList Try.prog ops Q (o :: rest) a w := by
  refine wpList_plain hg fun K' hK' => ?_
  obtain ⟨w', hrun, h1, h2⟩ := h.put ht hn hk v
  unfold Oper.wp
  simp [execOp, hop, hm, hx, hy, hrun, Result.andThen]
  exact hK' _ _ (hK w' h1 h2)
end Go.Proofs.Ytlgnapdhnlhkpaa

namespace Go.Proofs.Ytlgnapdhnlhkpaa
open Go.RowKit

/-- The same, of a store that may have no places. -/
theorem own_after0 {w w1 w2 : World} {a : Option Addr} {c n : Nat} {S : List Nd} {K : Nat → Value} {v : Value} (hb1 : Below (w.heap.size + 1 + 1 + 1) (((w.alloc (.cells #[.slice a n c] 24)).alloc (.cells #[.slice none 0 0] 24)).alloc (.cells #[.int .i64 0, .int .i64 0] 26)) w1) (hb2 : Below w1.heap.size w1 w2) (hown : OwnK w1.heap.size S n K v w2) :
    ∃ va vc, v = .slice va n vc ∧ OwnK (w.heap.size + 3) S n K (.slice va n vc) (w2.setCell ⟨w.heap.size, 0, none⟩ (.slice va n vc)) ∧
    Below w.heap.size w (w2.setCell ⟨w.heap.size, 0, none⟩ (.slice va n vc)) ∧ (w2.cell? ⟨w.heap.size, 0, none⟩ = some (.slice a n c) ∧ w2.frozen? ⟨w.heap.size, 0, none⟩ = false) ∧
    w2.cell? ⟨w.heap.size + 1, 0, none⟩ = some (.slice none 0 0) ∧ w2.cell? ⟨w.heap.size + 1 + 1, 0, none⟩ = some (.int .i64 0) ∧ w2.cell? ⟨w.heap.size + 1 + 1, 1, none⟩ = some (.int .i64 0) ∧
    w2.frozen? ⟨w.heap.size + 1, 0, none⟩ = false ∧ w2.frozen? ⟨w.heap.size + 1 + 1, 0, none⟩ = false ∧ w2.frozen? ⟨w.heap.size + 1 + 1, 1, none⟩ = false := by
  have hs1 := hb1.size
  simp only [World.size_alloc] at hs1
  have hb3 : Below (w.heap.size + 1 + 1 + 1) _ w2 := hb1.trans (hb2.mono (by omega))
  obtain ⟨l0, l1, l2, l3, z1, z2, z3⟩ := make_low hb3
  have z0 : w2.frozen? ⟨w.heap.size, 0, none⟩ = false := (hb3.frozen (by simp; omega)).trans (by go_simp)
  have hm := hown.1
  obtain ⟨va, vc, rfl⟩ : ∃ va vc, v = .slice va n vc := by
    rcases hm.2 with ⟨h, h0⟩ | ⟨g, cap, cur, h, h1, _, h3, h4, _⟩
    · exact ⟨none, 0, by rw [h, h0]⟩
    · exact ⟨_, cap, h⟩
  refine ⟨va, vc, rfl, ?_, ?_, ⟨l0, z0⟩, l1, l2, l3, z1, z2, z3⟩
  · have ho : OwnK (w.heap.size + 3) S n K (.slice va n vc) w2 := ⟨ownsRow_baseL hown.1 (by omega), fun i hi => ownsRow_baseL (hown.2 i hi) (by omega)⟩
    exact ho.other (fun b hb _ => Below.heap_setCell _ _ _ _ (by simp; omega))
  · exact ((three_below _ _ _ _).trans (hb3.mono (by omega))).setCell (by simp) _


end Go.Proofs.Ytlgnapdhnlhkpaa

namespace Go.Proofs.Ytlgnapdhnlhkpaa
open Go.RowKit

theorem ratt_low {w w1 : World} {a : Option Addr} {n c : Nat} {p u : Int} (hb : Below (w.heap.size + 1 + 1 + 1 + 1) ((((w.alloc (.cells #[.slice a n c] 24)).alloc (.cells #[.int .i64 p, .int .i64 u] 26)).alloc (.cells #[.slice none 0 0] 24)).alloc (.cells #[.int .i64 0, .int .i64 0] 26)) w1) :
    (w1.cell? ⟨w.heap.size, 0, none⟩ = some (.slice a n c) ∧ w1.cell? ⟨w.heap.size + 1, 0, none⟩ = some (.int .i64 p) ∧ w1.cell? ⟨w.heap.size + 1, 1, none⟩ = some (.int .i64 u) ∧ w1.cell? ⟨w.heap.size + 1 + 1, 0, none⟩ = some (.slice none 0 0) ∧ w1.cell? ⟨w.heap.size + 1 + 1 + 1, 0, none⟩ = some (.int .i64 0) ∧ w1.cell? ⟨w.heap.size + 1 + 1 + 1, 1, none⟩ = some (.int .i64 0)) ∧ ((∀ o, w1.frozen? ⟨w.heap.size, o, none⟩ = false) ∧ (∀ o, w1.frozen? ⟨w.heap.size + 1 + 1, o, none⟩ = false) ∧ (∀ o, w1.frozen? ⟨w.heap.size + 1 + 1 + 1, o, none⟩ = false)) ∧ w.heap.size + 4 ≤ w1.heap.size ∧ Below w.heap.size w w1 := by
  have hs := hb.size
  simp only [World.size_alloc] at hs
  refine ⟨⟨?_, ?_, ?_, ?_, ?_, ?_⟩, ⟨fun o => ?_, fun o => ?_, fun o => ?_⟩, by omega, (four_below _ _ _ _ _).trans (hb.mono (by omega))⟩
  all_goals first | exact (hb.cell (by first | (simp; done) | (simp; omega))).trans (by go_simp) | exact (hb.frozen (by first | (simp; done) | (simp; omega))).trans (by go_simp)

end Go.Proofs.Ytlgnapdhnlhkpaa

namespace Go.Proofs.Ytlgnapdhnlhkpaa
open Go.RowKit

theorem find_used {S : List Nd} {p u : Int} (h : findE S p u = 0) : WF S ∧ ∃ k : Nat, p = k ∧ k < S.length ∧ (nd S k).u = true ∧ (nd S k).n = u := by
  obtain ⟨hc, hh⟩ := find_parts h
  refine ⟨(wf_iff S).1 hc, ?_⟩
  unfold holdsE at hh
  cases hq : isPl S.length p with
  | false => rw [hq, if_neg (by simp)] at hh; omega
  | true =>
    have hq' : 0 ≤ p ∧ p ≤ (S.length : Int) - 1 := of_decide_eq_true hq
    obtain ⟨k, rfl⟩ : ∃ k : Nat, p = k := ⟨p.toNat, by omega⟩
    rw [hq, if_pos rfl, Int.toNat_natCast] at hh
    unfold holdX at hh
    refine ⟨k, rfl, by omega, ?_⟩
    split at hh
    · split at hh
      · split at hh
        · exact ⟨by assumption, by assumption⟩
        · omega
      · omega
    · omega

theorem find_here {S : List Nd} (wf : WF S) {k : Nat} (hk : k < S.length) (hu : (nd S k).u = true) : findE S k (nd S k).n = 0 := find_zero wf (holds_used hk hu rfl wf)

theorem seen_of_roots {S : List Nd} {p q : Nat} (h : rootsF S p q = []) : seenF S p q = true := by
  unfold seenF
  rw [h]
  rfl

end Go.Proofs.Ytlgnapdhnlhkpaa

namespace Go.Proofs.Ytlgnapdhnlhkpaa
open Go.RowKit

theorem tcheck_1h (S : List Nd) (p u : Int) : tcheckE S [(p, u)] = findE S p u := by
  unfold tcheckE findE handsE handsE
  by_cases h : holdsE S p u = 0
  · simp [h]
  · simp [h]

theorem tcheck_two (S : List Nd) (p u q v : Int) : tcheckE S [(p, u), (q, v)] = if findE S p u = 0 then findE S q v else findE S p u := by
  unfold tcheckE findE handsE handsE handsE
  by_cases hc : checkE S = 0
  · simp only [if_pos hc]
    by_cases h : holdsE S p u = 0
    · simp only [if_pos h]
      by_cases h2 : holdsE S q v = 0
      · simp [h2]
      · simp [h2]
    · simp [h]
  · simp [hc]

theorem nds_none (W : World) : NdsAt W none [] := fun _ hi => absurd hi (Nat.not_lt_zero _)

/-- What Attach and Attached answer. -/
abbrev AttAns (f : Nat) (S T : List Nd) (p u : Int) (cl : Bool) (kp ku E : Int) : Prop := ∀ (a : Option Addr) (c : Nat) W, NdsAt W a S →
  Calls Try.prog f #[.agg #[.slice a S.length c], .agg #[.int .i64 p, .int .i64 u], .bool cl] W fun e w' => ∃ a' c', e = .returned (.tuple #[.agg #[.slice a' T.length c'], .agg #[.int .i64 kp, .int .i64 ku], .int .i64 E]) ∧ Below W.heap.size W w' ∧ NdsAt w' a' T

/-- What Seen and SeenFrom answer. -/
abbrev SeenAns (f : Nat) (S : List Nd) (p u q v : Int) (B : Bool) (E : Int) : Prop := ∀ (a : Option Addr) (c : Nat) W, NdsAt W a S →
  Calls Try.prog f #[.agg #[.slice a S.length c], .agg #[.int .i64 p, .int .i64 u], .agg #[.int .i64 q, .int .i64 v]] W fun e w' => e = .returned (.tuple #[.bool B, .int .i64 E]) ∧ Below W.heap.size W w'

/-- Is a place in use? (Of any number.) -/
def usedB (S : List Nd) (q : Int) : Bool := isPl S.length q && (nd S q.toNat).u

set_option maxHeartbeats 1000000 in
theorem used_all (a : Option Addr) (c : Nat) (S : List Nd) (q : Int) (w : World) (hS : NdsAt w a S) :
    Calls Try.prog 17 #[.agg #[.slice a S.length c], .int .i64 q] w fun e w' => e = .returned (.bool (usedB S q)) ∧ Below w.heap.size w w' := by
  by_cases hq : 0 ≤ q ∧ q < (S.length : Int)
  · obtain ⟨t, rfl⟩ : ∃ t : Nat, q = t := ⟨q.toNat, by omega⟩
    have ht : t < S.length := by omega
    obtain ⟨nb, no, rfl, c0, _⟩ := hS t ht
    have hnb := World.block_lt_of_cell? _ _ c0
    have e : usedB S (t : Int) = (nd S t).u := by
      unfold usedB
      rw [isPl_nat.2 ht, Int.toNat_natCast]
      rfl
    rw [e]
    have h1 : (t : Int) < (S.length : Int) := hq.2
    have b1 : decide ((0 : Int) ≤ (t : Int)) = true := decide_eq_true hq.1
    have b2 : decide ((t : Int) < (S.length : Int)) = true := decide_eq_true h1
    clear hS e hq
    generalize (nd S t).u = x at *
    generalize S.length = n at *
    go_enter Try.func17, Try.ntmps17
    go_wp2
    go_ret
    exact ⟨rfl, (Below.refl _ _).alloc (Nat.le_refl _) _⟩
  · have e : usedB S q = false := by
      unfold usedB
      have : isPl S.length q = false := by
        unfold isPl
        exact decide_eq_false (by omega)
      rw [this]
      rfl
    rw [e]
    clear hS e
    generalize S.length = n at *
    by_cases h0 : 0 ≤ q
    · have h1 : ¬ q < (n : Int) := fun h => hq ⟨h0, h⟩
      have b1 : decide (0 ≤ q) = true := decide_eq_true h0
      have b2 : decide (q < (n : Int)) = false := decide_eq_false h1
      clear hq
      go_enter Try.func17, Try.ntmps17
      go_wp2
      go_ret
      exact ⟨rfl, (Below.refl _ _).alloc (Nat.le_refl _) _⟩
    · have b1 : decide (0 ≤ q) = false := decide_eq_false h0
      clear hq
      go_enter Try.func17, Try.ntmps17
      go_wp2
      go_ret
      exact ⟨rfl, (Below.refl _ _).alloc (Nat.le_refl _) _⟩
end Go.Proofs.Ytlgnapdhnlhkpaa
