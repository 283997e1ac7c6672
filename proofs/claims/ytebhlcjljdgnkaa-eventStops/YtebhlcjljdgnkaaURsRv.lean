/-
  What the program and the reference answer alike: Attach, Seen, Path (for ShadowSays).
-/
import Derived.Test.YtebhlcjljdgnkaaURqRjRrZhZkRzHf
import Derived.Test.YtebhlcjljdgnkaaUZe
import Derived.Test.YtebhlcjljdgnkaaUZpRdRbRhTmHc
import Derived.Test.YtebhlcjljdgnkaaUUaSo
import Derived.Test.YtebhlcjljdgnkaaUWbWdSr
import Derived.Maps.AppendAt
namespace Go.Proofs.Ytebhlcjljdgnkaa
open Go.RowKit

theorem tcheck_1h (S : List Nd) (p u : Int) : tcheckE S [(p, u)] = findE S p u := by
  unfold tcheckE findE handsE handsE
  by_cases h : holdsE S p u = 0
  · simp [h]
  · simp [h]

theorem tcheck_two (S : List Nd) (p u q v : Int) : tcheckE S [(p, u), (q, v)] = if findE S p u = 0 then findE S q v else findE S p u := by
  unfold tcheckE findE handsE handsE handsE
  by_cases hc : checkE S = 0
  · simp only [if_pos hc]
    by_cases h : holdsE S p u = 0
    · simp only [if_pos h]
      by_cases h2 : holdsE S q v = 0
      · simp [h2]
      · simp [h2]
    · simp [h]
  · simp [hc]

theorem nds_none (W : World) : NdsAt W none [] := fun _ hi => absurd hi (Nat.not_lt_zero _)

/-- What Attach and Attached answer. -/
abbrev AttAns (f : Nat) (S T : List Nd) (p u : Int) (cl : Bool) (kp ku E : Int) : Prop := ∀ (a : Option Addr) (c : Nat) W, NdsAt W a S →
  Calls Try.prog f #[.agg #[.slice a S.length c], .agg #[.int .i64 p, .int .i64 u], .bool cl] W fun e w' => ∃ a' c', e = .returned (.tuple #[.agg #[.slice a' T.length c'], .agg #[.int .i64 kp, .int .i64 ku], .int .i64 E]) ∧ Below W.heap.size W w' ∧ NdsAt w' a' T

/-- What Seen and SeenFrom answer. -/
abbrev SeenAns (f : Nat) (S : List Nd) (p u q v : Int) (B : Bool) (E : Int) : Prop := ∀ (a : Option Addr) (c : Nat) W, NdsAt W a S →
  Calls Try.prog f #[.agg #[.slice a S.length c], .agg #[.int .i64 p, .int .i64 u], .agg #[.int .i64 q, .int .i64 v]] W fun e w' => e = .returned (.tuple #[.bool B, .int .i64 E]) ∧ Below W.heap.size W w'

set_option maxHeartbeats 1000000 in
theorem path_err (a : Option Addr) (c : Nat) (S : List Nd) (p u E : Int) (w : World) (hN : S.length ≤ 9223372036854775807) (hB : Big S) (hS : NdsAt w a S) (hE : findE S p u = E) (hE0 : E ≠ 0) :
    Calls Try.prog 7 #[.agg #[.slice a S.length c], .agg #[.int .i64 p, .int .i64 u]] w fun e w' => e = .returned (.tuple #[.slice none 0 0, .int .i64 E]) ∧ Below w.heap.size w w' := by
  have D0 : Hid (∀ W, NdsAt W a S → Calls _ _ _ _ _) := fun W hW => find_err a c S p u E W hN hB hW hE hE0
  have HS : Hid (NdsAt w a S) := hS
  have hz0 : (E == 0) = false := by simp [hE0]
  have hz1 : decide (E = 0) = false := decide_eq_false hE0
  clear hS hE hB hN
  generalize S.length = n at *
  go_enter Try.func7, Try.ntmps7
  go_wp2_with fail
  refine Calls.mono (D0.out _ (HS.out.below (two_below _ _ _))) ?_
  rintro e w2 ⟨rfl, hb2⟩
  simp only [World.size_alloc] at hb2
  have HB2 : Hid (Below w.heap.size w w2) := (two_below _ _ _).trans (hb2.mono (by omega))
  clear hb2
  go_wp2_with fail
  refine bodyPost_ret (v := .tuple #[.slice none 0 0, .int .i64 E]) (by simp [results, Try.results7, go_sem]) rfl ⟨rfl, ?_⟩
  first | exact HB2.out | exact HB2.out.alloc HB2.out.size _ | exact (HB2.out.alloc HB2.out.size _).drew

theorem path_all (S : List Nd) (p u : Int) (hN : S.length ≤ 9223372036854775807) (hB : Big S) :
    ∃ L : List Int, L.length ≤ 9223372036854775807 ∧ (findE S p u = 0 → ∃ k : Nat, p = k ∧ k < S.length ∧ L = pathF S k) ∧ (findE S p u ≠ 0 → L = []) ∧
    ∀ (a : Option Addr) (c : Nat) W, NdsAt W a S → Calls Try.prog 7 #[.agg #[.slice a S.length c], .agg #[.int .i64 p, .int .i64 u]] W fun e w' => ∃ a' c', e = .returned (.tuple #[.slice a' L.length c', .int .i64 (findE S p u)]) ∧ Below W.heap.size W w' ∧ IntsAt w' a' L := by
  by_cases hE : findE S p u = 0
  · obtain ⟨wf, k, rfl, hk, _, _⟩ := find_used hE
    refine ⟨pathF S k, by have := path_len S k; have := wf.small; omega, fun _ => ⟨k, rfl, hk, rfl⟩, fun h => absurd hE h, fun a c W hW => ?_⟩
    rw [hE]
    refine (path_ok a c S k u W wf hW hk hE).mono (fun e w' ⟨v, e1, hb, ho⟩ => ?_)
    obtain ⟨pa, pc, rfl, hi, _⟩ := own_slice ho
    exact ⟨pa, pc, e1, hb, hi⟩
  · exact ⟨[], by simp, fun h => absurd h hE, fun _ => rfl, fun a c W hW => (path_err a c S p u _ W hN hB hW rfl hE).mono (fun e w' ⟨e1, hb⟩ => ⟨none, 0, e1, hb, fun i hi => absurd hi (Nat.not_lt_zero _)⟩)⟩

/-- Is a place in use? (Of any number.) -/
def usedB (S : List Nd) (q : Int) : Bool := isPl S.length q && (nd S q.toNat).u

set_option maxHeartbeats 1000000 in
theorem used_all (a : Option Addr) (c : Nat) (S : List Nd) (q : Int) (w : World) (hS : NdsAt w a S) :
    Calls Try.prog 11 #[.agg #[.slice a S.length c], .int .i64 q] w fun e w' => e = .returned (.bool (usedB S q)) ∧ Below w.heap.size w w' := by
  by_cases hq : 0 ≤ q ∧ q < (S.length : Int)
  · obtain ⟨t, rfl⟩ : ∃ t : Nat, q = t := ⟨q.toNat, by omega⟩
    have ht : t < S.length := by omega
    obtain ⟨nb, no, rfl, c0, _⟩ := hS t ht
    have hnb := World.block_lt_of_cell? _ _ c0
    have e : usedB S (t : Int) = (nd S t).u := by
      unfold usedB
      rw [isPl_nat.2 ht, Int.toNat_natCast]
      rfl
    rw [e]
    have h1 : (t : Int) < (S.length : Int) := hq.2
    have b1 : decide ((0 : Int) ≤ (t : Int)) = true := decide_eq_true hq.1
    have b2 : decide ((t : Int) < (S.length : Int)) = true := decide_eq_true h1
    clear hS e hq
    generalize (nd S t).u = x at *
    generalize S.length = n at *
    go_enter Try.func11, Try.ntmps11
    go_wp2
    go_ret
    exact ⟨rfl, (Below.refl _ _).alloc (Nat.le_refl _) _⟩
  · have e : usedB S q = false := by
      unfold usedB
      have : isPl S.length q = false := by
        unfold isPl
        exact decide_eq_false (by omega)
      rw [this]
      rfl
    rw [e]
    clear hS e
    generalize S.length = n at *
    by_cases h0 : 0 ≤ q
    · have h1 : ¬ q < (n : Int) := fun h => hq ⟨h0, h⟩
      have b1 : decide (0 ≤ q) = true := decide_eq_true h0
      have b2 : decide (q < (n : Int)) = false := decide_eq_false h1
      clear hq
      go_enter Try.func11, Try.ntmps11
      go_wp2
      go_ret
      exact ⟨rfl, (Below.refl _ _).alloc (Nat.le_refl _) _⟩
    · have b1 : decide (0 ≤ q) = false := decide_eq_false h0
      clear hq
      go_enter Try.func11, Try.ntmps11
      go_wp2
      go_ret
      exact ⟨rfl, (Below.refl _ _).alloc (Nat.le_refl _) _⟩
end Go.Proofs.Ytebhlcjljdgnkaa

namespace Go.Proofs.Ytebhlcjljdgnkaa
open Go.RowKit

theorem order_fuel' {S : List Nd} (wf : WF S) {p : Nat} (hp : p < S.length) : ∀ {f : Nat}, Deep S f p → ∀ {f' : Nat}, Deep S f' p → orderF S f p = orderF S f' p := by
  intro f
  induction f generalizing p with
  | zero =>
    intro h f' h'
    have h0 : (nd S p).ks = [] := h
    cases f' with
    | zero => rfl
    | succ f' => simp [orderF, h0]
  | succ f ih =>
    intro h f' h'
    cases f' with
    | zero =>
      have h0 : (nd S p).ks = [] := h'
      simp [orderF, h0]
    | succ f' =>
      simp only [orderF]
      congr 1
      refine flatMap_congr' (fun x hx => ?_)
      obtain ⟨k, rfl, h1, _, _, _, h5⟩ := wf.kid_deep hp h hx
      obtain ⟨k', e, _, _, _, _, h6⟩ := wf.kid_deep hp h' hx
      have : k = k' := by omega
      subst this
      rw [Int.toNat_natCast]
      exact ih h1 h5 h6

theorem order_step {S : List Nd} (wf : WF S) {p : Nat} (hp : p < S.length) : orderS S p = (p : Int) :: (nd S p).ks.flatMap fun k => orderS S k.toNat := by
  have hD := wf.deep_all hp
  unfold orderS
  cases hn : S.length with
  | zero => omega
  | succ f =>
    rw [hn] at hD
    rw [orderF]
    congr 1
    refine flatMap_congr' (fun x hx => ?_)
    obtain ⟨k, rfl, h1, _, _, _, h5⟩ := wf.kid_deep hp hD hx
    rw [Int.toNat_natCast]
    have h6 := wf.deep_all h1
    rw [hn] at h6
    exact order_fuel' wf h1 h5 h6

/-- What a stack leads to, its top last. -/
def stkO (S : List Nd) (st : List Int) : List Int := st.reverse.flatMap fun k => orderS S k.toNat

theorem stk_push {S : List Nd} (wf : WF S) {p : Nat} (hp : p < S.length) (st : List Int) : stkO S (st ++ [(p : Int)]) = (p : Int) :: stkO S (st ++ (nd S p).ks.reverse) := by
  unfold stkO
  rw [List.reverse_append, List.reverse_append, List.reverse_reverse]
  simp only [List.reverse_cons, List.reverse_nil, List.nil_append, List.singleton_append, List.flatMap_cons, List.flatMap_append, Int.toNat_natCast]
  rw [order_step wf hp]
  simp

theorem stk_len {S : List Nd} (hpos : ∀ k, 0 < (orderS S k).length) : ∀ st : List Int, st.length ≤ (stkO S st).length := fun st => by
  unfold stkO
  have : ∀ l : List Int, l.length ≤ (l.flatMap fun k => orderS S k.toNat).length := fun l => by
    induction l with
    | nil => simp
    | cons x l ih =>
      rw [List.flatMap_cons, List.length_append, List.length_cons]
      have := hpos x.toNat
      omega
  have := this st.reverse
  rw [List.length_reverse] at this
  exact this

theorem orderS_pos (S : List Nd) (k : Nat) : 0 < (orderS S k).length := by
  unfold orderS
  cases S.length <;> simp [orderF]

/-- A row of the call's own, its last one left out. -/
theorem own_cut {w : World} {B g m cap : Nat} {l : List Int} {x : Int} (hl : l.length = m) (h : w.ownsRow B 3 1 (.slice (some ⟨g, 0, none⟩) (m + 1) cap) (m + 1) ((l ++ [x]).map (Value.int .i64))) : w.ownsRow B 3 1 (.slice (some ⟨g, 0, none⟩) m cap) m (l.map (Value.int .i64)) := by
  obtain ⟨h0, h⟩ := h
  rcases h with ⟨h, _⟩ | ⟨g', cap', cur, e, h1, h2, h3, h4, h5, h6⟩
  · cases h
  · cases e
    refine ⟨by simp [hl], Or.inr ⟨g, cap, cur, rfl, h1, h2, by omega, h4, h5, ?_⟩⟩
    rw [Nat.mul_one] at h6 ⊢
    have h7 : (cur.toList.take (m + 1)).take m = ((l ++ [x]).map (Value.int .i64)).take m := by rw [h6]
    rw [List.take_take, Nat.min_eq_left (by omega), List.map_append, List.take_append_of_le_length (by simp [hl])] at h7
    rw [h7, List.take_of_length_le (by simp [hl])]

theorem own_top {w : World} {B g m cap : Nat} {l : List Int} {x : Int} (hl : l.length = m) (h : w.ownsRow B 3 1 (.slice (some ⟨g, 0, none⟩) (m + 1) cap) (m + 1) ((l ++ [x]).map (Value.int .i64))) : w.cell? ⟨g, m, none⟩ = some (.int .i64 x) ∧ m + 1 ≤ cap ∧ cap ≤ 9223372036854775807 := by
  have hc := h.cellAt m (by omega)
  rcases h.2 with ⟨h, _⟩ | ⟨g', cap', cur, e, h1, h2, h3, h4, _⟩
  · cases h
  · cases e
    refine ⟨?_, h3, by unfold maxLen at h4; omega⟩
    rw [hc, List.map_append, List.getElem?_append_right (by simp [hl])]
    simp [hl]

/-- Another row stays where one is appended to. -/
theorem two_append {W w2 : World} {o1 : Obj} {B e size n' : Nat} {v v2 v' : Value} {xs' : List Value} (h' : W.ownsRow B e size v' n' xs') (ap : ∀ k, v.ownBlock = some k → v'.ownBlock ≠ some k) (hgrow : (W.alloc o1).grownBy w2 v.ownBlock) (hat : v2.ownBlock = v.ownBlock ∨ v2.ownBlock = some (W.alloc o1).heap.size) :
    w2.ownsRow B e size v' n' xs' ∧ ∀ k, v2.ownBlock = some k → v'.ownBlock ≠ some k := by
  refine ⟨owns_block h' (fun k hk => ?_), fun k hk hk' => ?_⟩
  · have hlt := (h'.lt k hk).2
    exact (hgrow.block k (by simp; omega) (fun e => ap k e.symm hk)).trans (Below.heap_alloc _ _ _ hlt)
  · rcases hat with h | h
    · exact ap k (by rw [← h]; exact hk) hk'
    · rw [h] at hk
      have := (h'.lt k hk').2
      simp at hk
      omega

theorem cut_run (g m cap : Nat) (h : m + 1 ≤ cap) : ∀ W, (Instr.slice 33 (.slice (some ⟨g, 0, none⟩) (m + 1) cap) none (some (.int .i64 (m : Int))) none).run Try.prog W = .ok (.slice (some ⟨g, 0, none⟩) m cap) W := fun W => by
  have h1 : (m : Int) ≤ (cap : Int) := by omega
  have h2 : (0 : Int) ≤ (m : Int) := by omega
  first | (go_simp; done) | (go_simp; omega) | (go_simp; intro h; omega)

theorem ord2_low {w w1 : World} {a : Option Addr} {n c : Nat} {p u : Int} {o3 : Obj} (hb : Below (w.heap.size + 1 + 1 + 1) (((w.alloc (.cells #[.slice a n c] 24)).alloc (.cells #[.int .i64 p, .int .i64 u] 27)).alloc o3) w1) :
    w1.cell? ⟨w.heap.size, 0, none⟩ = some (.slice a n c) ∧ w1.cell? ⟨w.heap.size + 1, 0, none⟩ = some (.int .i64 p) ∧ w.heap.size + 3 ≤ w1.heap.size ∧ Below w.heap.size w w1 := by
  have hs := hb.size
  simp only [World.size_alloc] at hs
  exact ⟨(hb.cell (by simp; omega)).trans (by go_simp), (hb.cell (by simp; try omega)).trans (by go_simp), by omega, (three_below _ _ _ _).trans (hb.mono (by omega))⟩

end Go.Proofs.Ytebhlcjljdgnkaa
