/-
  Cells of boxes that were made, and what stays of them: they stand in Ba.
-/
import Derived.Test.YtkcclfilpchgkaaJTe
import Derived.Test.YtkcclfilpchgkaaJSaBa
import Derived.Test.YtkcclfilpchgkaaJRbRhRp
import Derived.Test.YtkcclfilpchgkaaJUeZpRd
import Derived.Test.YtkcclfilpchgkaaJSo
import Derived.Test.YtkcclfilpchgkaaJSrWf
import Derived.Maps.AppendAt
import Derived.Test.YtkcclfilpchgkaaJHbSb
import Derived.Test.YtkcclfilpchgkaaJZiZkRs
import Derived.Test.YtkcclfilpchgkaaJHa
import Derived.Test.YtkcclfilpchgkaaJXdZa


namespace Go.Proofs.Ytkcclfilpchgkaa
open Go.RowKit

theorem order_fuel' {S : List Nd} (wf : WF S) {p : Nat} (hp : p < S.length) : ∀ {f : Nat}, Deep S f p → ∀ {f' : Nat}, Deep S f' p → orderF S f p = orderF S f' p := by
  intro f
  induction f generalizing p with
  | zero =>
    intro h f' h'
    have h0 : (nd S p).ks = [] := h
    cases f' with
    | zero => rfl
    | succ f' => simp [orderF, h0]
  | succ f ih =>
    intro h f' h'
    cases f' with
    | zero =>
      have h0 : (nd S p).ks = [] := h'
      simp [orderF, h0]
    | succ f' =>
      simp only [orderF]
      congr 1
      refine flatMap_congr' (fun x hx => ?_)
      obtain ⟨k, rfl, h1, _, _, _, h5⟩ := wf.kid_deep hp h hx
      obtain ⟨k', e, _, _, _, _, h6⟩ := wf.kid_deep hp h' hx
      have : k = k' := by omega
      subst this
      rw [Int.toNat_natCast]
      exact ih h1 h5 h6

theorem order_step {S : List Nd} (wf : WF S) {p : Nat} (hp : p < S.length) : orderS S p = (p : Int) :: (nd S p).ks.flatMap fun k => orderS S k.toNat := by
  have hD := wf.deep_all hp
  unfold orderS
  cases hn : S.length with
  | zero => omega
  | succ f =>
    rw [hn] at hD
    rw [orderF]
    congr 1
    refine flatMap_congr' (fun x hx => ?_)
    obtain ⟨k, rfl, h1, _, _, _, h5⟩ := wf.kid_deep hp hD hx
    rw [Int.toNat_natCast]
    have h6 := wf.deep_all h1
    rw [hn] at h6
    exact order_fuel' wf h1 h5 h6

/-- What a stack leads to, its top last. -/
def stkO (S : List Nd) (st : List Int) : List Int := st.reverse.flatMap fun k => orderS S k.toNat

theorem stk_push {S : List Nd} (wf : WF S) {p : Nat} (hp : p < S.length) (st : List Int) : stkO S (st ++ [(p : Int)]) = (p : Int) :: stkO S (st ++ (nd S p).ks.reverse) := by
  unfold stkO
  rw [List.reverse_append, List.reverse_append, List.reverse_reverse]
  simp only [List.reverse_cons, List.reverse_nil, List.nil_append, List.singleton_append, List.flatMap_cons, List.flatMap_append, Int.toNat_natCast]
  rw [order_step wf hp]
  simp

theorem stk_len {S : List Nd} (hpos : ∀ k, 0 < (orderS S k).length) : ∀ st : List Int, st.length ≤ (stkO S st).length := fun st => by
  unfold stkO
  have : ∀ l : List Int, l.length ≤ (l.flatMap fun k => orderS S k.toNat).length := fun l => by
    induction l with
    | nil => simp
    | cons x l ih =>
      rw [List.flatMap_cons, List.length_append, List.length_cons]
      have := hpos x.toNat
      omega
  have := this st.reverse
  rw [List.length_reverse] at this
  exact this

theorem orderS_pos (S : List Nd) (k : Nat) : 0 < (orderS S k).length := by
  unfold orderS
  cases S.length <;> simp [orderF]

/-- A row of the call's own, its last one left out. -/
theorem own_cut {w : World} {B g m cap : Nat} {l : List Int} {x : Int} (hl : l.length = m) (h : w.ownsRow B 3 1 (.slice (some ⟨g, 0, none⟩) (m + 1) cap) (m + 1) ((l ++ [x]).map (Value.int .i64))) : w.ownsRow B 3 1 (.slice (some ⟨g, 0, none⟩) m cap) m (l.map (Value.int .i64)) := by
  obtain ⟨h0, h⟩ := h
  rcases h with ⟨h, _⟩ | ⟨g', cap', cur, e, h1, h2, h3, h4, h5, h6⟩
  · cases h
  · cases e
    refine ⟨by simp [hl], Or.inr ⟨g, cap, cur, rfl, h1, h2, by omega, h4, h5, ?_⟩⟩
    rw [Nat.mul_one] at h6 ⊢
    have h7 : (cur.toList.take (m + 1)).take m = ((l ++ [x]).map (Value.int .i64)).take m := by rw [h6]
    rw [List.take_take, Nat.min_eq_left (by omega), List.map_append, List.take_append_of_le_length (by simp [hl])] at h7
    rw [h7, List.take_of_length_le (by simp [hl])]

theorem own_top {w : World} {B g m cap : Nat} {l : List Int} {x : Int} (hl : l.length = m) (h : w.ownsRow B 3 1 (.slice (some ⟨g, 0, none⟩) (m + 1) cap) (m + 1) ((l ++ [x]).map (Value.int .i64))) : w.cell? ⟨g, m, none⟩ = some (.int .i64 x) ∧ m + 1 ≤ cap ∧ cap ≤ 9223372036854775807 := by
  have hc := h.cellAt m (by omega)
  rcases h.2 with ⟨h, _⟩ | ⟨g', cap', cur, e, h1, h2, h3, h4, _⟩
  · cases h
  · cases e
    refine ⟨?_, h3, by unfold maxLen at h4; omega⟩
    rw [hc, List.map_append, List.getElem?_append_right (by simp [hl])]
    simp [hl]

/-- Another row stays where one is appended to. -/
theorem two_append {W w2 : World} {o1 : Obj} {B e size n' : Nat} {v v2 v' : Value} {xs' : List Value} (h' : W.ownsRow B e size v' n' xs') (ap : ∀ k, v.ownBlock = some k → v'.ownBlock ≠ some k) (hgrow : (W.alloc o1).grownBy w2 v.ownBlock) (hat : v2.ownBlock = v.ownBlock ∨ v2.ownBlock = some (W.alloc o1).heap.size) :
    w2.ownsRow B e size v' n' xs' ∧ ∀ k, v2.ownBlock = some k → v'.ownBlock ≠ some k := by
  refine ⟨owns_block h' (fun k hk => ?_), fun k hk hk' => ?_⟩
  · have hlt := (h'.lt k hk).2
    exact (hgrow.block k (by simp; omega) (fun e => ap k e.symm hk)).trans (Below.heap_alloc _ _ _ hlt)
  · rcases hat with h | h
    · exact ap k (by rw [← h]; exact hk) hk'
    · rw [h] at hk
      have := (h'.lt k hk').2
      simp at hk
      omega

theorem cut_run (g m cap : Nat) (h : m + 1 ≤ cap) : ∀ W, (Instr.slice 41 (.slice (some ⟨g, 0, none⟩) (m + 1) cap) none (some (.int .i64 (m : Int))) none).run Try.prog W = .ok (.slice (some ⟨g, 0, none⟩) m cap) W := fun W => by
  have h1 : (m : Int) ≤ (cap : Int) := by omega
  have h2 : (0 : Int) ≤ (m : Int) := by omega
  first | (go_simp; done) | (go_simp; omega) | (go_simp; intro h; omega)

theorem ord2_low {w w1 : World} {a : Option Addr} {n c : Nat} {p u : Int} {o3 : Obj} (hb : Below (w.heap.size + 1 + 1 + 1) (((w.alloc (.cells #[.slice a n c] 24)).alloc (.cells #[.int .i64 p, .int .i64 u] 27)).alloc o3) w1) :
    w1.cell? ⟨w.heap.size, 0, none⟩ = some (.slice a n c) ∧ w1.cell? ⟨w.heap.size + 1, 0, none⟩ = some (.int .i64 p) ∧ w.heap.size + 3 ≤ w1.heap.size ∧ Below w.heap.size w w1 := by
  have hs := hb.size
  simp only [World.size_alloc] at hs
  exact ⟨(hb.cell (by simp; omega)).trans (by go_simp), (hb.cell (by simp; try omega)).trans (by go_simp), by omega, (three_below _ _ _ _).trans (hb.mono (by omega))⟩

end Go.Proofs.Ytkcclfilpchgkaa

namespace Go.Proofs.Ytkcclfilpchgkaa
open Go.RowKit
set_option linter.unusedVariables false

set_option maxRecDepth 100000 in
set_option maxHeartbeats 1000000 in
theorem disp_err1 (a : Option Addr) (c : Nat) (S : List Nd) (la : Option Addr) (lc : Nat) (L : List Hr) (p u E : Int) (w : World) (hN : S.length ≤ 9223372036854775807) (hB : Big S) (hS : NdsAt w a S) (hE : findE S p u = E) (hE0 : E ≠ 0) :
    Calls Try.prog 6 #[.agg #[.slice a S.length c], .slice la L.length lc, .agg #[.int .i64 p, .int .i64 u]] w fun e w' => e = .returned (.tuple #[.slice none 0 0, .slice none 0 0, .int .i64 E]) ∧ Below w.heap.size w w' := by
  have D1 : Hid (∀ W, NdsAt W a S → Calls _ _ _ _ _) := fun W hW => path_err a c S p u E W hN hB hW hE hE0
  have HS : Hid (NdsAt w a S) := hS
  have e1 : (E == 0) = false := beq_eq_false_iff_ne.2 hE0
  have e2 : decide (E = 0) = false := decide_eq_false hE0
  clear hS hE hB
  generalize S.length = n at *
  generalize L.length = m at *
  go_enter Try.func6, Try.ntmps6
  go_wp2_with fail
  refine Calls.mono (D1.out _ (HS.out.below (two_belowS _ _ _))) ?_
  rintro e w1 ⟨rfl, hb⟩
  have HB1 : Hid (Below w.heap.size w w1) := (two_belowS w _ _).trans (hb.mono (by simp; omega))
  clear hb
  go_wp2_with fail
  refine bodyPost_ret (v := .tuple #[.slice none 0 0, .slice none 0 0, .int .i64 E]) (by simp [results, Try.results6, go_sem]) rfl ⟨rfl, HB1.out⟩

set_option maxRecDepth 100000 in
set_option maxHeartbeats 1000000 in
theorem disp_err2 (a : Option Addr) (c : Nat) (S : List Nd) (la : Option Addr) (lc : Nat) (L : List Hr) (k : Nat) (u E : Int) (w : World) (wf : WF S) (hS : NdsAt w a S) (hk : k < S.length) (hE : findE S k u = 0) (hL : L.length ≤ 9223372036854775807) (hBL : BigH L) (hH : HrsAt w la L) (hE1 : hcheckE L S.length = E) (hE0 : E ≠ 0) :
    Calls Try.prog 6 #[.agg #[.slice a S.length c], .slice la L.length lc, .agg #[.int .i64 (k : Int), .int .i64 u]] w fun e w' => e = .returned (.tuple #[.slice none 0 0, .slice none 0 0, .int .i64 E]) ∧ Below w.heap.size w w' := by
  have D1 : Hid (∀ W, NdsAt W a S → Calls _ _ _ _ _) := fun W hW => path_ok a c S k u W wf hW hk hE
  have d2 := fun (W : World) (hW : HrsAt W la L) => hcheck_any la lc L (S.length : Int) W hL hBL hW
  rw [hE1] at d2
  have D2 : Hid _ := d2
  have HS : Hid (NdsAt w a S) := hS
  have HL : Hid (HrsAt w la L) := hH
  have e1 : (E == 0) = false := beq_eq_false_iff_ne.2 hE0
  have e2 : decide (E = 0) = false := decide_eq_false hE0
  have hN := wf.small
  clear hS hE wf hH d2 hE1 hBL hk
  generalize pathF S k = P at *
  generalize S.length = n at *
  generalize L.length = m at *
  go_enter Try.func6, Try.ntmps6
  go_wp2_with fail
  refine Calls.mono (D1.out _ (HS.out.below (two_belowS _ _ _))) ?_
  rintro e w1 ⟨v, rfl, hb, _⟩
  have l0 := keepC (alloc_cell1 w #[.slice a n c] 24 0 (.cells #[.int .i64 (k : Int), .int .i64 u] 27) rfl) hb
  have HB1 : Hid (Below w.heap.size w w1) := (two_belowS w _ _).trans (hb.mono (by simp; omega))
  clear hb
  go_wp2_with fail
  refine Calls.mono (D2.out _ (HL.out.below HB1.out)) ?_
  rintro e w2 ⟨rfl, hb⟩
  have HB2 : Hid (Below w.heap.size w w2) := HB1.out.trans (hb.mono HB1.out.size)
  clear hb
  go_wp2_with fail
  refine bodyPost_ret (v := .tuple #[.slice none 0 0, .slice none 0 0, .int .i64 E]) (by simp [results, Try.results6, go_sem]) rfl ⟨rfl, HB2.out⟩

set_option maxRecDepth 100000 in
set_option maxHeartbeats 1000000 in
theorem rDisp_err1 (a : Option Addr) (c : Nat) (S : List Nd) (la : Option Addr) (lc : Nat) (L : List Hr) (p u E : Int) (w : World) (hN : S.length ≤ 9223372036854775807) (hC : RChk a c S) (hS : NdsAt w a S) (hE : tcheckE S [(p, u)] = E) (hE0 : E ≠ 0) :
    Calls Try.prog 7 #[.agg #[.slice a S.length c], .slice la L.length lc, .agg #[.int .i64 p, .int .i64 u]] w fun e w' => e = .returned (.tuple #[.slice none 0 0, .slice none 0 0, .int .i64 E]) ∧ Below w.heap.size w w' := by
  have df := fun (W : World) (ha : Option Addr) (hW : NdsAt W a S) (hH : HandsAt W ha [(p, u)]) => rFirst_any a c S ha 1 [(p, u)] W hN hC hW (by simp) hH
  rw [hE] at df
  have DF : Hid _ := df
  have HS : Hid (NdsAt w a S) := hS
  have hz : (E == 0) = false := by simp [hE0]
  have hz2 : decide (E = 0) = false := decide_eq_false hE0
  clear hS hC df hE
  generalize S.length = n at *
  generalize L.length = m at *
  go_enter Try.func7, Try.ntmps7
  go_wp2_with fail
  refine Calls.mono (DF.out _ _ (HS.out.below (three_below _ _ _ _)) (hands_one _ _ _ _ (by go_simp) (by go_simp))) ?_
  rintro e w1 ⟨rfl, hb1⟩
  simp only [World.size_alloc] at hb1
  obtain ⟨l0, l1, hsz, hB1⟩ := ord2_low hb1
  have HB1 : Hid _ := hB1
  clear hB1 hb1
  go_wp2_with fail
  refine bodyPost_ret (v := .tuple #[.slice none 0 0, .slice none 0 0, .int .i64 E]) (by simp [results, Try.results7, go_sem]) rfl ⟨rfl, HB1.out⟩

set_option maxRecDepth 100000 in
set_option maxHeartbeats 1000000 in
theorem rDisp_err2 (a : Option Addr) (c : Nat) (S : List Nd) (la : Option Addr) (lc : Nat) (L : List Hr) (p u E : Int) (w : World) (hN : S.length ≤ 9223372036854775807) (hC : RChk a c S) (hS : NdsAt w a S) (hE : tcheckE S [(p, u)] = 0) (hL : L.length ≤ 9223372036854775807) (hBL : BigH L) (hH : HrsAt w la L) (hE1 : hcheckE L S.length = E) (hE0 : E ≠ 0) :
    Calls Try.prog 7 #[.agg #[.slice a S.length c], .slice la L.length lc, .agg #[.int .i64 p, .int .i64 u]] w fun e w' => e = .returned (.tuple #[.slice none 0 0, .slice none 0 0, .int .i64 E]) ∧ Below w.heap.size w w' := by
  have df := fun (W : World) (ha : Option Addr) (hW : NdsAt W a S) (hH : HandsAt W ha [(p, u)]) => rFirst_any a c S ha 1 [(p, u)] W hN hC hW (by simp) hH
  rw [hE] at df
  have DF : Hid _ := df
  have d2 := fun (W : World) (hW : HrsAt W la L) => rhcheck_any la lc L (S.length : Int) W hL hBL hW
  rw [hE1] at d2
  have D2 : Hid _ := d2
  have HS : Hid (NdsAt w a S) := hS
  have HL : Hid (HrsAt w la L) := hH
  have hz : (E == 0) = false := by simp [hE0]
  have hz2 : decide (E = 0) = false := decide_eq_false hE0
  clear hS hC df hE d2 hH hE1 hBL
  generalize S.length = n at *
  generalize L.length = m at *
  go_enter Try.func7, Try.ntmps7
  go_wp2_with fail
  refine Calls.mono (DF.out _ _ (HS.out.below (three_below _ _ _ _)) (hands_one _ _ _ _ (by go_simp) (by go_simp))) ?_
  rintro e w1 ⟨rfl, hb1⟩
  simp only [World.size_alloc] at hb1
  obtain ⟨l0, l1, hsz, hB1⟩ := ord2_low hb1
  have HB1 : Hid (Below w.heap.size w w1) := hB1
  clear hB1 hb1
  go_wp2_with fail
  refine Calls.mono (D2.out _ (HL.out.below HB1.out)) ?_
  rintro e w2 ⟨rfl, hb⟩
  have HB2 : Hid (Below w.heap.size w w2) := HB1.out.trans (hb.mono HB1.out.size)
  clear hb
  go_wp2_with fail
  refine bodyPost_ret (v := .tuple #[.slice none 0 0, .slice none 0 0, .int .i64 E]) (by simp [results, Try.results7, go_sem]) rfl ⟨rfl, HB2.out⟩
end Go.Proofs.Ytkcclfilpchgkaa

namespace Go.Proofs.Ytkcclfilpchgkaa
open Go.RowKit

/-- A hearer at this spot. -/
def atSpot (x : Int × Bool) (h : Hr) : Bool := decide (h.pl = x.1) && (h.dn == x.2)
def hearF (L : List Hr) (x : Int × Bool) : List Hr := L.filter (atSpot x)
/-- The spots of an event: down to where the path begins, and up again. -/
def spotsF (P : List Int) : List (Int × Bool) := P.reverse.map (fun p => (p, true)) ++ P.map (fun p => (p, false))
/-- Those who are told, spot by spot, until somebody stops it. -/
def toldF (L : List Hr) : List (Int × Bool) → List Hr
  | [] => []
  | x :: t => hearF L x ++ if (hearF L x).any Hr.st then [] else toldF L t
def leftF (L : List Hr) (T : List Int) : List Hr := L.filter fun h => !(h.on && decide (h.id ∈ T))

structure Cal where
  id : Int
  pl : Int
  tg : Int
  ph : Int
  deriving DecidableEq

def phaseF (t p : Int) (down : Bool) : Int := if t = p then 2 else if down then 1 else 3
def callF (S : List Nd) (k : Nat) (x : Int × Bool) (id : Int) : Cal := ⟨id, x.1, targetF S k x.1.toNat, phaseF (targetF S k x.1.toNat) x.1 x.2⟩
def callH (S : List Nd) (k : Nat) (h : Hr) : Cal := callF S k (h.pl, h.dn) h.id

theorem hear_mem {L : List Hr} {x : Int × Bool} {h : Hr} : h ∈ hearF L x ↔ h ∈ L ∧ (h.pl, h.dn) = x := by
  unfold hearF atSpot
  rw [List.mem_filter]
  obtain ⟨p, d⟩ := x
  simp [Prod.ext_iff]

theorem told_mem {L : List Hr} {X : List (Int × Bool)} {h : Hr} (hm : h ∈ toldF L X) : h ∈ L ∧ (h.pl, h.dn) ∈ X := by
  induction X with
  | nil => simp [toldF] at hm
  | cons x t ih =>
    rw [toldF, List.mem_append] at hm
    rcases hm with hm | hm
    · obtain ⟨h1, h2⟩ := hear_mem.1 hm
      exact ⟨h1, by rw [h2]; simp⟩
    · split at hm
      · simp at hm
      · obtain ⟨h1, h2⟩ := ih hm
        exact ⟨h1, List.mem_cons_of_mem _ h2⟩

theorem told_pairwise {R : Hr → Hr → Prop} {L : List Hr} {X : List (Int × Bool)} (h1 : ∀ x ∈ X, (hearF L x).Pairwise R) (h2 : X.Pairwise fun x y => ∀ h ∈ hearF L x, ∀ h' ∈ hearF L y, R h h') : (toldF L X).Pairwise R := by
  induction X with
  | nil => simp [toldF]
  | cons x t ih =>
    rw [List.pairwise_cons] at h2
    rw [toldF, List.pairwise_append]
    refine ⟨h1 x (by simp), ?_, ?_⟩
    · split
      · simp
      · exact ih (fun y hy => h1 y (List.mem_cons_of_mem _ hy)) h2.2
    · intro h hm h' hm'
      split at hm'
      · simp at hm'
      · obtain ⟨h3, h4⟩ := told_mem hm'
        exact h2.1 _ h4 h hm h' (hear_mem.2 ⟨h3, rfl⟩)

theorem spots_nodup {P : List Int} (h : P.Nodup) : (spotsF P).Nodup := by
  unfold spotsF
  rw [List.nodup_append]
  refine ⟨?_, ?_, ?_⟩
  · rw [List.Nodup, List.pairwise_map]
    exact List.pairwise_reverse.2 (h.imp (fun hne e => hne (by simpa using e.symm)))
  · rw [List.Nodup, List.pairwise_map]
    exact h.imp (fun hne e => hne (by simpa using e))
  · intro x hx y hy e
    rw [List.mem_map] at hx hy
    obtain ⟨p, _, rfl⟩ := hx
    obtain ⟨q, _, rfl⟩ := hy
    simp at e

theorem spots_mem {P : List Int} {x : Int × Bool} (h : x ∈ spotsF P) : x.1 ∈ P := by
  unfold spotsF at h
  rw [List.mem_append, List.mem_map, List.mem_map] at h
  rcases h with ⟨p, hp, rfl⟩ | ⟨p, hp, rfl⟩
  · exact List.mem_reverse.1 hp
  · exact hp

/-- The way down is ahead of the way up. -/
theorem spots_order (P : List Int) : (spotsF P).Pairwise fun x y => x.2 = false → y.2 = false := by
  unfold spotsF
  rw [List.pairwise_append]
  refine ⟨?_, ?_, ?_⟩
  · rw [List.pairwise_map]
    exact List.Pairwise.imp (fun _ => by simp) (List.pairwise_of_forall (R := fun _ _ => True) (by simp))
  · rw [List.pairwise_map]
    exact List.Pairwise.imp (fun _ => by simp) (List.pairwise_of_forall (R := fun _ _ => True) (by simp))
  · intro x _ y hy _
    rw [List.mem_map] at hy
    obtain ⟨q, _, rfl⟩ := hy
    rfl

theorem told_order (L : List Hr) (P : List Int) : (toldF L (spotsF P)).Pairwise fun h h' => h.dn = false → h'.dn = false := by
  refine told_pairwise (fun x _ => ?_) ?_
  · refine List.Pairwise.imp_of_mem (R := fun _ _ => True) ?_ (List.pairwise_of_forall (by simp))
    intro h h' h1 h2 _ h3
    have e1 := (hear_mem.1 h1).2
    have e2 := (hear_mem.1 h2).2
    rw [← e1] at e2
    simp [Prod.ext_iff] at e2
    rw [e2.2]
    exact h3
  · refine (spots_order P).imp ?_
    intro x y hxy h h1 h' h2 h3
    have e1 := (hear_mem.1 h1).2
    have e2 := (hear_mem.1 h2).2
    subst e1
    have e3 : h'.dn = y.2 := by rw [← e2]
    rw [e3]
    exact hxy h3

theorem told_nodup {L : List Hr} {P : List Int} (hL : (L.map Hr.id).Nodup) (hP : P.Nodup) : ((toldF L (spotsF P)).map Hr.id).Nodup := by
  have hL2 : L.Pairwise fun h h' => h.id ≠ h'.id := by rw [List.Nodup, List.pairwise_map] at hL; exact hL
  have one : ∀ h ∈ L, ∀ h' ∈ L, h.id = h'.id → h = h' := by
    have := hL2
    induction L with
    | nil => intro h hm; simp at hm
    | cons a t ih =>
      rw [List.pairwise_cons] at this
      rw [List.map_cons, List.nodup_cons] at hL
      intro h hm h' hm' e
      rw [List.mem_cons] at hm hm'
      rcases hm with rfl | hm <;> rcases hm' with rfl | hm'
      · rfl
      · exact absurd e (this.1 _ hm')
      · exact absurd e.symm (this.1 _ hm)
      · exact ih hL.2 this.2 this.2 h hm h' hm' e
  rw [List.Nodup, List.pairwise_map]
  refine told_pairwise (fun x _ => ?_) ?_
  · unfold hearF
    exact hL2.filter _
  · refine (spots_nodup hP).imp ?_
    intro x y hxy h h1 h' h2 e
    obtain ⟨m1, e1⟩ := hear_mem.1 h1
    obtain ⟨m2, e2⟩ := hear_mem.1 h2
    have := one h m1 h' m2 e
    subst this
    exact hxy (e1.symm.trans e2)

theorem hcheck_nodup {N : Int} {L : List Hr} {seen : List Int} (hs : seen.Nodup) (h : hgo N seen L = 0) : (seen ++ L.map Hr.id).Nodup ∧ ∀ x ∈ L, 0 ≤ x.pl ∧ x.pl < N := by
  induction L generalizing seen with
  | nil => exact ⟨by simpa using hs, fun x hx => by simp at hx⟩
  | cons a t ih =>
    rw [hgo] at h
    split at h
    · cases h
    · rename_i hp
      split at h
      · cases h
      · rename_i hm
        have hs2 : (seen ++ [a.id]).Nodup := by
          rw [List.nodup_append]
          refine ⟨hs, by simp, ?_⟩
          intro x hx y hy e
          simp at hy
          exact hm (by rw [← hy, ← e]; exact hx)
        obtain ⟨h1, h2⟩ := ih hs2 h
        refine ⟨by simpa using h1, fun x hx => ?_⟩
        rw [List.mem_cons] at hx
        rcases hx with rfl | hx
        · omega
        · exact h2 x hx

theorem hcheck_ok {L : List Hr} {N : Int} (h : hcheckE L N = 0) : L.length ≤ 24 ∧ (L.map Hr.id).Nodup ∧ ∀ x ∈ L, 0 ≤ x.pl ∧ x.pl < N := by
  unfold hcheckE at h
  split at h
  · cases h
  · obtain ⟨h1, h2⟩ := hcheck_nodup (seen := []) (by simp) h
    exact ⟨by omega, by simpa using h1, h2⟩
end Go.Proofs.Ytkcclfilpchgkaa
