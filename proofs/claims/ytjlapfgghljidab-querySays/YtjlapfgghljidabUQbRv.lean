/-
  Queries as the reference reckons them: from the top of a line down; and that it is what the program reckons. Without the program.
-/
import Derived.Test.YtjlapfgghljidabUVeVf
import Derived.Test.YtjlapfgghljidabURzRaRbRhRdRe
import Derived.Test.YtjlapfgghljidabUSoTmSr
import Derived.Maps.AppendAt
namespace Go.Proofs.Ytjlapfgghljidab
open Go.RowKit

/-- The tests up to j are so, the last of them of x. -/
def SoJ (S : List Nd) (q : List Tst) : Nat → Nat → Prop
  | 0, x => testB (tst q 0).t (tst q 0).m (nd S x) = true
  | j + 1, x => testB (tst q (j + 1)).t (tst q (j + 1)).m (nd S x) = true ∧ ∃ y, Abv S (tst q (j + 1)).near x y ∧ SoJ S q j y

theorem tests_rev {q : List Tst} {j : Nat} (h : j < q.length) : (q.take (j + 1)).reverse = tst q j :: (q.take j).reverse := by
  rw [List.take_succ_eq_append_getElem h, List.reverse_append]
  unfold tst
  rw [getD_elem q _ h]
  rfl

theorem go_iff {S : List Nd} (wf : WF S) {q : List Tst} : ∀ {j : Nat}, j < q.length → ∀ {ps : List Int}, PlacesU S ps → ((soGo S (q.take (j + 1)).reverse ps ≠ []) ↔ ∃ x : Nat, (x : Int) ∈ ps ∧ SoJ S q j x)
  | 0, h, ps, hp => by
    rw [tests_rev h]
    simp only [List.take_zero, List.reverse_nil, soGo]
    constructor
    · intro hne
      obtain ⟨x, hx⟩ := List.exists_mem_of_ne_nil _ hne
      obtain ⟨h1, h2⟩ := mem_sift.1 hx
      obtain ⟨k, rfl, hk⟩ := hp x h1
      rw [Int.toNat_natCast] at h2
      exact ⟨k, h1, h2⟩
    · rintro ⟨x, hx, hs⟩ he
      have : (x : Int) ∈ siftF S (tst q 0) ps := mem_sift.2 ⟨hx, by rw [Int.toNat_natCast]; exact hs⟩
      rw [he] at this
      cases this
  | j + 1, h, ps, hp => by
    rw [tests_rev h, tests_rev (show j < q.length by omega)]
    have hs : PlacesU S (siftF S (tst q (j + 1)) ps) := hp.sift
    obtain ⟨hp2, hm⟩ := mem_above wf (tst q (j + 1)).near hs
    have ih := go_iff wf (show j < q.length by omega) hp2
    rw [tests_rev (show j < q.length by omega)] at ih
    simp only [soGo]
    rw [ih]
    constructor
    · rintro ⟨z, hz, hsz⟩
      obtain ⟨k, hk, ha⟩ := (hm z).1 hz
      obtain ⟨h1, h2⟩ := mem_sift.1 hk
      rw [Int.toNat_natCast] at h2
      exact ⟨k, h1, h2, z, ha, hsz⟩
    · rintro ⟨x, hx, h2, z, ha, hsz⟩
      exact ⟨z, (hm z).2 ⟨x, mem_sift.2 ⟨hx, by rw [Int.toNat_natCast]; exact h2⟩, ha⟩, hsz⟩

theorem isSo_iff {S : List Nd} (wf : WF S) {q : List Tst} {k : Nat} (hk : k < S.length) (hq : 0 < q.length) : isSoF S k q = true ↔ SoJ S q (q.length - 1) k := by
  have h := go_iff wf (q := q) (j := q.length - 1) (by omega) (ps := [(k : Int)]) (fun x hx => ⟨k, by simpa using hx, hk⟩)
  rw [show q.length - 1 + 1 = q.length by omega, List.take_length] at h
  unfold isSoF
  rw [decide_eq_true_iff, List.length_pos_iff, h]
  constructor
  · rintro ⟨x, hx, hs⟩
    have h0 : (x : Int) = k := by simpa using hx
    have : x = k := by omega
    rw [← this]
    exact hs
  · intro hs
    exact ⟨k, by simp, hs⟩

/-- A node, its Parent, and so on. -/
def ppF (S : List Nd) : Nat → Int → List Int
  | 0, _ => []
  | f + 1, x => if isPl S.length x then x :: ppF S f (nd S x.toNat).p else []

theorem pp_len (S : List Nd) : ∀ (f : Nat) (x : Int), (ppF S f x).length ≤ f
  | 0, _ => by simp [ppF]
  | f + 1, x => by
    rw [ppF]
    split
    · have := pp_len S f (nd S x.toNat).p
      simp; omega
    · simp

/-- What is reckoned at a node: of each test whether those up to it are so, it of this node. -/
def nowF (S : List Nd) (q : List Tst) (x : Int) (last reach : Nat → Bool) (j : Nat) : Bool := testB (tst q j).t (tst q j).m (nd S x.toNat) && (if j = 0 then true else if (tst q j).near then last (j - 1) else reach (j - 1))

def dpStep (S : List Nd) (q : List Tst) (st : (Nat → Bool) × (Nat → Bool)) (x : Int) : (Nat → Bool) × (Nat → Bool) := (nowF S q x st.1 st.2, fun j => st.2 j || nowF S q x st.1 st.2 j)

def dpF (S : List Nd) (q : List Tst) (line : List Int) : (Nat → Bool) × (Nat → Bool) := line.foldl (dpStep S q) (fun _ => false, fun _ => false)

theorem dp_snoc (S : List Nd) (q : List Tst) (l : List Int) (x : Int) : dpF S q (l ++ [x]) = dpStep S q (dpF S q l) x := by
  unfold dpF
  rw [List.foldl_append]
  rfl

theorem dp_iff {S : List Nd} (q : List Tst) : ∀ (f : Nat) (x : Nat), x < S.length → (∀ j z, PUp S j x z → j < f) → ∀ j, ((dpF S q (ppF S f x).reverse).1 j = true ↔ SoJ S q j x) ∧ ((dpF S q (ppF S f x).reverse).2 j = true ↔ ∃ i z, PUp S i x z ∧ SoJ S q j z)
  | 0, x, _, hf, _ => absurd (hf 0 x rfl) (by omega)
  | f + 1, x, hx, hf, j => by
    have e : ppF S (f + 1) x = (x : Int) :: ppF S f (nd S x).p := by rw [ppF, if_pos (isPl_nat.2 hx), Int.toNat_natCast]
    rw [e, List.reverse_cons, dp_snoc]
    by_cases hp : ∃ y : Nat, (nd S x).p = y ∧ y < S.length
    · obtain ⟨y, hy1, hy2⟩ := hp
      rw [hy1]
      have ih := dp_iff q f y hy2 (fun i z h => by have := hf (i + 1) z ⟨y, hy2, hy1, h⟩; omega)
      have hnow : ∀ j, (nowF S q (x : Int) (dpF S q (ppF S f y).reverse).1 (dpF S q (ppF S f y).reverse).2 j = true) ↔ SoJ S q j x := fun j => by
        unfold nowF
        rw [Int.toNat_natCast, Bool.and_eq_true]
        cases j with
        | zero => simp [SoJ]
        | succ j =>
          rw [if_neg (by omega), Nat.add_sub_cancel]
          simp only [SoJ]
          refine and_congr_right fun _ => ?_
          unfold Abv
          by_cases hn : (tst q (j + 1)).near = true
          · rw [if_pos hn, (ih j).1]
            simp only [hn, if_true]
            constructor
            · intro h; exact ⟨y, ⟨hy1, hy2⟩, h⟩
            · rintro ⟨z, ⟨h1, _⟩, h⟩
              have : z = y := by omega
              rw [← this]; exact h
          · rw [if_neg hn, (ih j).2]
            simp only [if_neg hn]
            constructor
            · rintro ⟨i, z, h1, h2⟩; exact ⟨z, ⟨y, i, hy1, hy2, h1⟩, h2⟩
            · rintro ⟨z, ⟨y0, i, h1, _, h3⟩, h2⟩
              have : y0 = y := by omega
              subst this
              exact ⟨i, z, h3, h2⟩
      refine ⟨hnow j, ?_⟩
      show ((dpF S q (ppF S f y).reverse).2 j || _) = true ↔ _
      rw [Bool.or_eq_true, (ih j).2, hnow j]
      constructor
      · rintro (⟨i, z, h1, h2⟩ | h)
        · exact ⟨i + 1, z, ⟨y, hy2, hy1, h1⟩, h2⟩
        · exact ⟨0, x, rfl, h⟩
      · rintro ⟨i, z, h1, h2⟩
        cases i with
        | zero => cases h1; exact Or.inr h2
        | succ i =>
          obtain ⟨y', _, h4, h5⟩ := h1
          have : y' = y := by omega
          subst this
          exact Or.inl ⟨i, z, h5, h2⟩
    · have e0 : ppF S f (nd S x).p = [] := by
        cases f with
        | zero => rfl
        | succ f =>
          rw [ppF, if_neg]
          intro h
          have h2 : 0 ≤ (nd S x).p ∧ (nd S x).p ≤ (S.length : Int) - 1 := of_decide_eq_true h
          exact hp ⟨(nd S x).p.toNat, by omega, by omega⟩
      rw [e0]
      have hnow : ∀ j, (nowF S q (x : Int) (dpF S q ([] : List Int).reverse).1 (dpF S q ([] : List Int).reverse).2 j = true) ↔ SoJ S q j x := fun j => by
        unfold nowF
        rw [Int.toNat_natCast, Bool.and_eq_true]
        cases j with
        | zero => simp [SoJ]
        | succ j =>
          rw [if_neg (by omega)]
          simp only [SoJ]
          refine and_congr_right fun _ => ?_
          constructor
          · intro h
            have : (if (tst q (j + 1)).near = true then false else false) = true := h
            simp at this
          · rintro ⟨z, h1, _⟩
            exfalso
            obtain ⟨y0, _, h3, h4, _⟩ : Abv S false x z := h1.far
            exact hp ⟨y0, h3, h4⟩
      refine ⟨hnow j, ?_⟩
      show ((false : Bool) || nowF S q (x : Int) (dpF S q ([] : List Int).reverse).1 (dpF S q ([] : List Int).reverse).2 j) = true ↔ _
      rw [Bool.false_or, hnow j]
      constructor
      · intro h; exact ⟨0, x, rfl, h⟩
      · rintro ⟨i, z, h1, h2⟩
        cases i with
        | zero => cases h1; exact h2
        | succ i =>
          obtain ⟨y', h3, h4, _⟩ := h1
          exact absurd ⟨y', h4, h3⟩ hp

theorem WF.pup_short {S : List Nd} (wf : WF S) {x z j : Nat} (hx : x < S.length) (h : PUp S j x z) : j < S.length + 1 := by
  have := wf.up_short hx (PUp.up wf hx h)
  omega

theorem dp_isSo {S : List Nd} (wf : WF S) {q : List Tst} {k : Nat} (hk : k < S.length) (hq : 0 < q.length) : (dpF S q (ppF S (S.length + 1) k).reverse).1 (q.length - 1) = isSoF S k q := by
  have h1 := (dp_iff (S := S) q (S.length + 1) k hk (fun j z h => wf.pup_short hk h) (q.length - 1)).1
  have h2 := isSo_iff wf hk hq
  cases e1 : (dpF S q (ppF S (S.length + 1) k).reverse).1 (q.length - 1) with
  | true => rw [h2.2 (h1.1 e1)]
  | false =>
    cases e2 : isSoF S k q with
    | false => rfl
    | true => rw [h1.2 (h2.1 e2)] at e1; cases e1
end Go.Proofs.Ytjlapfgghljidab

namespace Go.Proofs.Ytjlapfgghljidab
open Go.RowKit

theorem order_fuel' {S : List Nd} (wf : WF S) {p : Nat} (hp : p < S.length) : ∀ {f : Nat}, Deep S f p → ∀ {f' : Nat}, Deep S f' p → orderF S f p = orderF S f' p := by
  intro f
  induction f generalizing p with
  | zero =>
    intro h f' h'
    have h0 : (nd S p).ks = [] := h
    cases f' with
    | zero => rfl
    | succ f' => simp [orderF, h0]
  | succ f ih =>
    intro h f' h'
    cases f' with
    | zero =>
      have h0 : (nd S p).ks = [] := h'
      simp [orderF, h0]
    | succ f' =>
      simp only [orderF]
      congr 1
      refine flatMap_congr' (fun x hx => ?_)
      obtain ⟨k, rfl, h1, _, _, _, h5⟩ := wf.kid_deep hp h hx
      obtain ⟨k', e, _, _, _, _, h6⟩ := wf.kid_deep hp h' hx
      have : k = k' := by omega
      subst this
      rw [Int.toNat_natCast]
      exact ih h1 h5 h6

theorem order_step {S : List Nd} (wf : WF S) {p : Nat} (hp : p < S.length) : orderS S p = (p : Int) :: (nd S p).ks.flatMap fun k => orderS S k.toNat := by
  have hD := wf.deep_all hp
  unfold orderS
  cases hn : S.length with
  | zero => omega
  | succ f =>
    rw [hn] at hD
    rw [orderF]
    congr 1
    refine flatMap_congr' (fun x hx => ?_)
    obtain ⟨k, rfl, h1, _, _, _, h5⟩ := wf.kid_deep hp hD hx
    rw [Int.toNat_natCast]
    have h6 := wf.deep_all h1
    rw [hn] at h6
    exact order_fuel' wf h1 h5 h6

/-- What a stack leads to, its top last. -/
def stkO (S : List Nd) (st : List Int) : List Int := st.reverse.flatMap fun k => orderS S k.toNat

theorem stk_push {S : List Nd} (wf : WF S) {p : Nat} (hp : p < S.length) (st : List Int) : stkO S (st ++ [(p : Int)]) = (p : Int) :: stkO S (st ++ (nd S p).ks.reverse) := by
  unfold stkO
  rw [List.reverse_append, List.reverse_append, List.reverse_reverse]
  simp only [List.reverse_cons, List.reverse_nil, List.nil_append, List.singleton_append, List.flatMap_cons, List.flatMap_append, Int.toNat_natCast]
  rw [order_step wf hp]
  simp

theorem stk_len {S : List Nd} (hpos : ∀ k, 0 < (orderS S k).length) : ∀ st : List Int, st.length ≤ (stkO S st).length := fun st => by
  unfold stkO
  have : ∀ l : List Int, l.length ≤ (l.flatMap fun k => orderS S k.toNat).length := fun l => by
    induction l with
    | nil => simp
    | cons x l ih =>
      rw [List.flatMap_cons, List.length_append, List.length_cons]
      have := hpos x.toNat
      omega
  have := this st.reverse
  rw [List.length_reverse] at this
  exact this

theorem orderS_pos (S : List Nd) (k : Nat) : 0 < (orderS S k).length := by
  unfold orderS
  cases S.length <;> simp [orderF]

/-- A row of the call's own, its last one left out. -/
theorem own_cut {w : World} {B g m cap : Nat} {l : List Int} {x : Int} (hl : l.length = m) (h : w.ownsRow B 3 1 (.slice (some ⟨g, 0, none⟩) (m + 1) cap) (m + 1) ((l ++ [x]).map (Value.int .i64))) : w.ownsRow B 3 1 (.slice (some ⟨g, 0, none⟩) m cap) m (l.map (Value.int .i64)) := by
  obtain ⟨h0, h⟩ := h
  rcases h with ⟨h, _⟩ | ⟨g', cap', cur, e, h1, h2, h3, h4, h5, h6⟩
  · cases h
  · cases e
    refine ⟨by simp [hl], Or.inr ⟨g, cap, cur, rfl, h1, h2, by omega, h4, h5, ?_⟩⟩
    rw [Nat.mul_one] at h6 ⊢
    have h7 : (cur.toList.take (m + 1)).take m = ((l ++ [x]).map (Value.int .i64)).take m := by rw [h6]
    rw [List.take_take, Nat.min_eq_left (by omega), List.map_append, List.take_append_of_le_length (by simp [hl])] at h7
    rw [h7, List.take_of_length_le (by simp [hl])]

theorem own_top {w : World} {B g m cap : Nat} {l : List Int} {x : Int} (hl : l.length = m) (h : w.ownsRow B 3 1 (.slice (some ⟨g, 0, none⟩) (m + 1) cap) (m + 1) ((l ++ [x]).map (Value.int .i64))) : w.cell? ⟨g, m, none⟩ = some (.int .i64 x) ∧ m + 1 ≤ cap ∧ cap ≤ 9223372036854775807 := by
  have hc := h.cellAt m (by omega)
  rcases h.2 with ⟨h, _⟩ | ⟨g', cap', cur, e, h1, h2, h3, h4, _⟩
  · cases h
  · cases e
    refine ⟨?_, h3, by unfold maxLen at h4; omega⟩
    rw [hc, List.map_append, List.getElem?_append_right (by simp [hl])]
    simp [hl]

/-- Another row stays where one is appended to. -/
theorem two_append {W w2 : World} {o1 : Obj} {B e size n' : Nat} {v v2 v' : Value} {xs' : List Value} (h' : W.ownsRow B e size v' n' xs') (ap : ∀ k, v.ownBlock = some k → v'.ownBlock ≠ some k) (hgrow : (W.alloc o1).grownBy w2 v.ownBlock) (hat : v2.ownBlock = v.ownBlock ∨ v2.ownBlock = some (W.alloc o1).heap.size) :
    w2.ownsRow B e size v' n' xs' ∧ ∀ k, v2.ownBlock = some k → v'.ownBlock ≠ some k := by
  refine ⟨owns_block h' (fun k hk => ?_), fun k hk hk' => ?_⟩
  · have hlt := (h'.lt k hk).2
    exact (hgrow.block k (by simp; omega) (fun e => ap k e.symm hk)).trans (Below.heap_alloc _ _ _ hlt)
  · rcases hat with h | h
    · exact ap k (by rw [← h]; exact hk) hk'
    · rw [h] at hk
      have := (h'.lt k hk').2
      simp at hk
      omega

theorem cut_run (g m cap : Nat) (h : m + 1 ≤ cap) : ∀ W, (Instr.slice 27 (.slice (some ⟨g, 0, none⟩) (m + 1) cap) none (some (.int .i64 (m : Int))) none).run Try.prog W = .ok (.slice (some ⟨g, 0, none⟩) m cap) W := fun W => by
  have h1 : (m : Int) ≤ (cap : Int) := by omega
  have h2 : (0 : Int) ≤ (m : Int) := by omega
  first | (go_simp; done) | (go_simp; omega) | (go_simp; intro h; omega)

theorem ord2_low {w w1 : World} {a : Option Addr} {n c : Nat} {p u : Int} {o3 : Obj} (hb : Below (w.heap.size + 1 + 1 + 1) (((w.alloc (.cells #[.slice a n c] 24)).alloc (.cells #[.int .i64 p, .int .i64 u] 26)).alloc o3) w1) :
    w1.cell? ⟨w.heap.size, 0, none⟩ = some (.slice a n c) ∧ w1.cell? ⟨w.heap.size + 1, 0, none⟩ = some (.int .i64 p) ∧ w.heap.size + 3 ≤ w1.heap.size ∧ Below w.heap.size w w1 := by
  have hs := hb.size
  simp only [World.size_alloc] at hs
  exact ⟨(hb.cell (by simp; omega)).trans (by go_simp), (hb.cell (by simp; try omega)).trans (by go_simp), by omega, (three_below _ _ _ _).trans (hb.mono (by omega))⟩

set_option maxHeartbeats 2000000 in
theorem rOrd_err (a : Option Addr) (c : Nat) (S : List Nd) (p u E : Int) (w : World) (hN : S.length ≤ 9223372036854775807) (hC : RChk a c S) (hS : NdsAt w a S) (hE : tcheckE S [(p, u)] = E) (hE0 : E ≠ 0) :
    Calls Try.prog 48 #[.agg #[.slice a S.length c], .agg #[.int .i64 p, .int .i64 u]] w fun e w' => e = .returned (.tuple #[.slice none 0 0, .int .i64 E]) ∧ Below w.heap.size w w' := by
  have df := fun (W : World) (ha : Option Addr) (hW : NdsAt W a S) (hH : HandsAt W ha [(p, u)]) => rFirst_any a c S ha 1 [(p, u)] W hN hC hW (by simp) hH
  rw [hE] at df
  have DF : Hid _ := df
  have HS : Hid (NdsAt w a S) := hS
  have hz : (E == 0) = false := by simp [hE0]
  have hz2 : decide (E = 0) = false := decide_eq_false hE0
  clear hS hC df hE
  generalize S.length = n at *
  go_enter Try.func48, Try.ntmps48
  go_wp2_with fail
  refine Calls.mono (DF.out _ _ (HS.out.below (three_below _ _ _ _)) (hands_one _ _ _ _ (by go_simp) (by go_simp))) ?_
  rintro e w1 ⟨rfl, hb1⟩
  simp only [World.size_alloc] at hb1
  obtain ⟨l0, l1, hsz, hB1⟩ := ord2_low hb1
  go_wp2_with fail
  refine bodyPost_ret (v := .tuple #[.slice none 0 0, .int .i64 E]) (by simp [results, Try.results48, go_sem]) rfl ⟨rfl, hB1⟩

set_option maxRecDepth 100000 in
set_option maxHeartbeats 8000000 in
theorem rOrd_ok (a : Option Addr) (c : Nat) (S : List Nd) (k : Nat) (u : Int) (w : World) (wf : WF S) (hC : RChk a c S) (hS : NdsAt w a S) (hk : k < S.length) (hE : tcheckE S [((k : Int), u)] = 0) :
    Calls Try.prog 48 #[.agg #[.slice a S.length c], .agg #[.int .i64 (k : Int), .int .i64 u]] w fun e w' => ∃ v, e = .returned (.tuple #[v, .int .i64 0]) ∧ Below w.heap.size w w' ∧ w'.ownsRow w.heap.size 3 1 v (orderS S k).length ((orderS S k).map (Value.int .i64)) := by
  obtain ⟨i0, hi0, hz0, hz1, hz2⟩ := info_parts info3
  have hN := wf.small
  have df := fun (W : World) (ha : Option Addr) (hW : NdsAt W a S) (hH : HandsAt W ha [((k : Int), u)]) => rFirst_any a c S ha 1 [((k : Int), u)] W (by omega) hC hW (by simp) hH
  rw [hE] at df
  have DF : Hid _ := df
  have HS : Hid (NdsAt w a S) := hS
  have PU : Hid (∀ (p : Nat) st, p < S.length → stkO S (st ++ [(p : Int)]) = (p : Int) :: stkO S (st ++ (nd S p).ks.reverse)) := fun p st hp => stk_push wf hp st
  have KP : Hid (∀ (p : Nat), p < S.length → ∀ x ∈ (nd S p).ks, ∃ q : Nat, x = q ∧ q < S.length) := fun p hp x hx => by
    obtain ⟨q, e, h1, _⟩ := wf.kid hp hx
    exact ⟨q, e, h1⟩
  have KS : Hid (∀ (p : Nat), p < S.length → (nd S p).ks.length ≤ 1000) := fun p hp => by have := wf.kids_small hp; omega
  have SL : Hid (∀ st, st.length ≤ (stkO S st).length) := stk_len (orderS_pos S)
  have RL : Hid ((orderS S k).length ≤ 24) := (Nat.le_trans (order_le wf hk) hN : (orderS S k).length ≤ 24)
  have S0 : Hid (stkO S [(k : Int)] = orderS S k) := (by unfold stkO; simp : stkO S [(k : Int)] = orderS S k)
  have SN : Hid (stkO S [] = []) := (rfl : stkO S [] = [])
  clear hS hC df hE wf
  generalize orderS S k = RES at *
  obtain ⟨n, hn⟩ : ∃ n, S.length = n := ⟨_, rfl⟩
  have HN : Hid (S.length = n) := hn
  rw [hn] at hN hk DF PU KP KS ⊢
  clear hn
  go_enter Try.func48, Try.ntmps48
  go_wp2_with fail
  refine Calls.mono (DF.out _ _ (HS.out.below (three_below _ _ _ _)) (hands_one _ _ _ _ (by go_simp) (by go_simp))) ?_
  rintro e w1 ⟨rfl, hb1⟩
  simp only [World.size_alloc] at hb1
  obtain ⟨l0, l1, hsz, hB1⟩ := ord2_low hb1
  have HB1 : Hid _ := hB1
  have q0 : w.heap.size < w1.heap.size := by omega
  have q1 : w.heap.size + 1 < w1.heap.size := by omega
  have OW0 : Hid ((w1.alloc (.cells #[.int .i64 (k : Int)] 3)).ownsRow (w.heap.size + 2) 3 1 (.slice (some ⟨w1.heap.size, 0, none⟩) 1 1) [(k : Int)].length ([(k : Int)].map (Value.int .i64))) := by
    have h := World.ownsRow_lit (base := w.heap.size + 2) (e := 3) (size := 1) w1 #[.int .i64 (k : Int)] 1 (by omega) (by unfold maxLen; omega) (by simp)
    exact h
  clear hb1 hB1 DF
  go_wp2_with fail
  go_loopg [7, 8] RES.length (fun g s7 s8 wr => ∃ (st out : List Int), RES.length - out.length ≤ g ∧ wr.cell? ⟨w.heap.size, 0, none⟩ = some (.slice a n c) ∧ w.heap.size + 2 ≤ wr.heap.size ∧ Hid (Below w.heap.size w wr) ∧ Hid (wr.ownsRow (w.heap.size + 2) 3 1 s7 st.length (st.map (Value.int .i64))) ∧ Hid (wr.ownsRow (w.heap.size + 2) 3 1 s8 out.length (out.map (Value.int .i64))) ∧ Hid (∀ k, s8.ownBlock = some k → s7.ownBlock ≠ some k) ∧ Hid (RES = out ++ stkO S st) ∧ Hid (∀ x ∈ st, ∃ q : Nat, x = q ∧ q < n))
  case atStart =>
    refine ⟨[(k : Int)], [], by simp, ?_, (by show _ ≤ (w1.alloc _).heap.size; rw [World.size_alloc]; omega), (HB1.out.alloc HB1.out.size _ : Below _ _ _), OW0, World.ownsRow_nil _ _ _ _, (fun k h => by cases h), (by rw [S0.out]; rfl : RES = [] ++ stkO S [(k : Int)]), (fun x hx => ⟨k, by simpa using hx, hk⟩)⟩
    exact keepC l0 (one_belowS _ _)
  case round =>
    clear OW0 l0 l1 q0 q1 S0 HB1 hsz hk
    obtain ⟨st, out, hg, cs, hsz, HB, HO7, HO8, AP, EQ, PL⟩ := hrel
    have hcs := World.block_lt_of_cell? _ _ cs
    rcases List.eq_nil_or_concat st with hst | ⟨st', x, hst⟩
    · subst hst
      obtain ⟨pa, pc, e7, _⟩ := own_slice HO7.out
      obtain ⟨oa, oc, e8, _⟩ := own_slice HO8.out
      have e := EQ.out
      rw [SN.out, List.append_nil] at e
      subst e7
      subst e
      have OW : Hid (wr.ownsRow w.heap.size 3 1 u8 RES.length (RES.map (Value.int .i64))) := ownsRow_base HO8.out (by omega)
      subst e8
      clear EQ PL HO7 HO8 AP
      dsimp only [List.length_nil]
      go_wp2_with fail
      refine bodyPost_ret (v := .tuple #[.slice oa RES.length oc, .int .i64 0]) (by simp [results, Try.results48, go_sem]) rfl ⟨_, rfl, HB.out, OW.out⟩
    · rw [List.concat_eq_append] at hst
      obtain ⟨p, rfl, hpn⟩ := PL.out x (by rw [hst]; simp)
      have hlen7 : st.length ≤ 24 := by
        have h1 := SL.out st
        have h2 := EQ.out
        have h3 := RL.out
        rw [h2, List.length_append] at h3
        omega
      have hRl : out.length < RES.length := by
        have h2 := EQ.out
        rw [hst, PU.out p st' hpn] at h2
        rw [h2]
        simp
      have EQ2 : Hid (RES = (out ++ [(p : Int)]) ++ stkO S (st' ++ (nd S p).ks.reverse)) := by
        have h2 := EQ.out
        rw [hst, PU.out p st' hpn] at h2
        show RES = _
        rw [h2, List.append_assoc]
        rfl
      obtain ⟨m, hm⟩ : ∃ m, st'.length = m := ⟨_, rfl⟩
      have hm24 : m ≤ 24 := by rw [hst] at hlen7; simp at hlen7; omega
      have ho : wr.ownsRow (w.heap.size + 2) 3 1 u7 (m + 1) ((st' ++ [(p : Int)]).map (Value.int .i64)) := by
        have h := HO7.out
        rw [hst, List.length_append, hm] at h
        exact h
      obtain ⟨g7, c7, e7⟩ : ∃ g7 c7, u7 = Value.slice (some ⟨g7, 0, none⟩) (m + 1) c7 := by
        rcases ho.2 with ⟨_, h⟩ | ⟨g', cap', cur, h, _⟩
        · omega
        · exact ⟨g', cap', h⟩
      subst e7
      obtain ⟨top, hc1, hc2⟩ := own_top hm ho
      have OC : Hid (wr.ownsRow (w.heap.size + 2) 3 1 (.slice (some ⟨g7, 0, none⟩) m c7) st'.length (st'.map (Value.int .i64))) := (by rw [hm]; exact own_cut hm ho : wr.ownsRow (w.heap.size + 2) 3 1 (.slice (some ⟨g7, 0, none⟩) m c7) st'.length (st'.map (Value.int .i64)))
      have hg7 := (ho.lt g7 rfl).2
      have CUT := cut_run g7 m c7 hc1
      have PL2 : Hid (∀ x ∈ st', ∃ q : Nat, x = q ∧ q < n) := fun x hx => PL.out x (by rw [hst]; simp [hx])
      obtain ⟨oa, oc, e8, _⟩ := own_slice HO8.out
      subst e8
      obtain ⟨lo, hlo⟩ : ∃ lo, out.length = lo := ⟨_, rfl⟩
      have HLO : Hid (out.length = lo) := hlo
      have hlo24 : lo ≤ 24 := by have := RL.out; omega
      rw [hlo] at HO8 AP hg hRl ⊢
      have AP8 : Hid (∀ k, (Value.slice oa lo oc).ownBlock = some k → (Value.slice (some ⟨g7, 0, none⟩) m c7).ownBlock ≠ some k) := fun k hk => AP.out k hk
      have OB8 : Hid (∀ k, (Value.slice oa lo oc).ownBlock = some k → w.heap.size + 2 ≤ k) := fun k hk => (HO8.out.lt k hk).1
      have HM : Hid (st'.length = m) := hm
      clear hst ho HO7 PL EQ AP hlen7 hm hlo
      have i1 : ((m + 1 : Nat) : Int) - 1 = (m : Int) := by omega
      have i2 : (m : Int) + 1 - 1 = (m : Int) := by omega
      have hmc : (m : Int) < (m : Int) + 1 := by omega
      go_wp2_with (at_builtin; refine wpList_append_own_at _ rfl _ _ 27 rfl (w.heap.size + 2) 3 i0 (.int .i64 0) 1 8 Try.underlying27 hi0 hz0 hz1 hz2 rfl (by decide) _ _ _ rfl (HO8.out.alloc _) ⟨wr.heap.size, 0, none⟩ 1 1 [.int .i64 (p : Int)] rfl rfl ?c1 ?c2 ?c3 ?c4 ?c5 ?_)
      case c2 => rfl
      case c3 => unfold maxLen; omega
      case c4 => omega
      case c5 => omega
      intro v8 w2 hown8 hgrow _ hat
      obtain ⟨ho7, hap⟩ := two_append (v2 := v8) OC.out AP8.out hgrow (by simpa using hat)
      have hb2 : Below (w.heap.size + 2) wr w2 := ((Below.refl _ wr).alloc (by omega) _).grown hgrow (by simp; omega) (fun k hk => OB8.out k hk)
      have HB2 : Hid (Below w.heap.size w w2) := HB.out.trans (hb2.mono (by omega))
      have cs2 := (hb2.cell (p := ⟨w.heap.size, 0, none⟩) (by show w.heap.size < _; omega)).trans cs
      have hcs2 := World.block_lt_of_cell? _ _ cs2
      have hsz2 : w.heap.size + 2 ≤ w2.heap.size := by have := hb2.size; omega
      have HO8' : Hid (w2.ownsRow (w.heap.size + 2) 3 1 v8 (out ++ [(p : Int)]).length ((out ++ [(p : Int)]).map (Value.int .i64))) := by
        have h2 := hown8
        rw [show (out ++ [(p : Int)]).length = lo + 1 by simp [HLO.out], List.map_append]
        exact h2
      have HO7' : Hid (w2.ownsRow (w.heap.size + 2) 3 1 (.slice (some ⟨g7, 0, none⟩) m c7) st'.length (st'.map (Value.int .i64))) := ho7
      have HAP : Hid (∀ k, v8.ownBlock = some k → (Value.slice (some ⟨g7, 0, none⟩) m c7).ownBlock ≠ some k) := hap
      obtain ⟨nb, no, ea, _, _, _, _, _, ⟨ka, kc, k5, hki⟩, _, _⟩ := (HS.out.below HB2.out) p (by rw [HN.out]; exact hpn)
      subst ea
      have hp2 : (p : Int) < (n : Int) := by omega
      have HKI : Hid (IntsAt w2 ka (nd S p).ks) := hki
      have hkl := KS.out p hpn
      have KPp : Hid _ := KP.out p hpn
      obtain ⟨ks, hks⟩ : ∃ ks, (nd S p).ks = ks := ⟨_, rfl⟩
      rw [hks] at k5 HKI hkl KPp EQ2
      have HKS : Hid ((nd S p).ks = ks) := hks
      obtain ⟨L, hL⟩ : ∃ L, ks.length = L := ⟨_, rfl⟩
      have HL : Hid (ks.length = L) := hL
      rw [hL] at k5 hkl
      clear hown8 hgrow hat ho7 hap hb2 cs hcs OC AP8 OB8 HO8 top CUT hki hks hL HB
      have hlo1 : (out ++ [(p : Int)]).length = lo + 1 := by simp [HLO.out]
      have HLO1 : Hid _ := hlo1
      clear hlo1
      go_wp2_with fail
      obtain ⟨V, hV⟩ : ∃ V, V = wr := ⟨_, rfl⟩
      go_loopg [7, 10] (L + 1) (fun g s7 s10 wr => ∃ (j : Nat) (stk : List Int), j ≤ L ∧ j ≤ g ∧ s10 = .int .i64 ((j : Int) - 1) ∧ wr.cell? ⟨w.heap.size, 0, none⟩ = some (.slice (some ⟨nb, no, none⟩) n c) ∧ w.heap.size + 2 ≤ wr.heap.size ∧ Hid (Below w.heap.size w wr) ∧ Hid (stk = st' ++ (ks.drop j).reverse) ∧ Hid (wr.ownsRow (w.heap.size + 2) 3 1 s7 stk.length (stk.map (Value.int .i64))) ∧ Hid (wr.ownsRow (w.heap.size + 2) 3 1 v8 (out ++ [(p : Int)]).length ((out ++ [(p : Int)]).map (Value.int .i64))) ∧ Hid (∀ k, v8.ownBlock = some k → s7.ownBlock ≠ some k))
      case atStart => exact ⟨L, st', Nat.le_refl _, by omega, rfl, cs2, hsz2, HB2, (by rw [← HL.out, List.drop_length]; simp : st' = st' ++ (ks.drop L).reverse), HO7', HO8', HAP⟩
      case round =>
        clear cs2 hcs2 hsz2 HB2 HO7' HO8' HAP hg7 k5 HKI
        obtain ⟨j, stk, hj, hgj, rfl, cs2, hsz2, HB2, ES, HO7', HO8', HAP⟩ := hrel
        have hcs2 := World.block_lt_of_cell? _ _ cs2
        cases j with
        | zero =>
          have EQ3 : Hid (RES = (out ++ [(p : Int)]) ++ stkO S stk) := by
            show RES = _
            rw [EQ2.out, ES.out, List.drop_zero]
          have PL3 : Hid (∀ x ∈ stk, ∃ q : Nat, x = q ∧ q < n) := fun x hx => by
            rw [ES.out, List.drop_zero] at hx
            rcases List.mem_append.1 hx with h | h
            · exact PL2.out x h
            · exact KPp.out x (List.mem_reverse.1 h)
          have i3 : ((0 : Nat) : Int) - 1 = -1 := rfl
          rw [i3]
          go_wp2_with fail
          go_roundg (RES.length - (lo + 1))
          case measure => omega
          case rel => exact ⟨stk, out ++ [(p : Int)], by rw [HLO1.out]; omega, cs2, hsz2, HB2, HO7', HO8', HAP, EQ3, PL3⟩
        | succ jj =>
          have i3 : ((jj + 1 : Nat) : Int) - 1 = (jj : Int) := by omega
          rw [i3]
          obtain ⟨nb', no', ea, _, _, _, _, _, ⟨ka2, kc2, k5, hki⟩, _, _⟩ := (HS.out.below HB2.out) p (by rw [HN.out]; exact hpn)
          cases ea
          rw [HKS.out] at k5 hki
          rw [HL.out] at k5
          obtain ⟨kb, ko, ek, hkc⟩ := hki jj (by rw [HL.out]; omega)
          subst ek
          obtain ⟨y, hy⟩ : ∃ y, ks.getD jj 0 = y := ⟨_, rfl⟩
          rw [hy] at hkc
          have hjj2 : (jj : Int) < (L : Int) := by omega
          have ES2 : Hid (stk ++ [y] = st' ++ (ks.drop jj).reverse) := by
            show stk ++ [y] = _
            have hd : ks.drop jj = y :: ks.drop (jj + 1) := by
              rw [drop_cons (d := 0) (by rw [HL.out]; omega), hy]
            rw [hd, ES.out, List.reverse_cons, List.append_assoc]
          obtain ⟨pa, pc, e7, _⟩ := own_slice HO7'.out
          obtain ⟨ls, hls⟩ : ∃ ls, stk.length = ls := ⟨_, rfl⟩
          have hls2 : ls ≤ 2000 := by
            rw [← hls, ES.out, List.length_append, List.length_reverse, List.length_drop, HL.out, HM.out]
            omega
          have HLS : Hid (stk.length = ls) := hls
          rw [hls] at e7 HO7'
          subst e7
          have OB7 : Hid (∀ k, (Value.slice pa ls pc).ownBlock = some k → w.heap.size + 2 ≤ k) := fun k hk => (HO7'.out.lt k hk).1
          have AP7 : Hid (∀ k, (Value.slice pa ls pc).ownBlock = some k → v8.ownBlock ≠ some k) := fun k hk hk' => HAP.out k hk' hk
          clear hki hy hls HAP ES
          go_wp2_with (at_builtin; refine wpList_append_own_at _ rfl _ _ 27 rfl (w.heap.size + 2) 3 i0 (.int .i64 0) 1 8 Try.underlying27 hi0 hz0 hz1 hz2 rfl (by decide) _ _ _ rfl (HO7'.out.alloc _) ⟨wr.heap.size, 0, none⟩ 1 1 [.int .i64 y] rfl rfl ?d1 ?d2 ?d3 ?d4 ?d5 ?_)
          case d2 => rfl
          case d3 => unfold maxLen; omega
          case d4 => omega
          case d5 => omega
          intro v7 w3 hown7 hgrow _ hat
          obtain ⟨ho8, hap⟩ := two_append (v2 := v7) HO8'.out AP7.out hgrow (by simpa using hat)
          have hb3 : Below (w.heap.size + 2) wr w3 := ((Below.refl _ wr).alloc (by omega) _).grown hgrow (by simp; omega) (fun k hk => OB7.out k hk)
          have HB3 : Hid (Below w.heap.size w w3) := HB2.out.trans (hb3.mono (by omega))
          have cs3 := (hb3.cell (p := ⟨w.heap.size, 0, none⟩) (by show w.heap.size < _; omega)).trans cs2
          have hsz3 : w.heap.size + 2 ≤ w3.heap.size := by have := hb3.size; omega
          have HO7n : Hid (w3.ownsRow (w.heap.size + 2) 3 1 v7 (stk ++ [y]).length ((stk ++ [y]).map (Value.int .i64))) := by
            have h2 := hown7
            rw [show (stk ++ [y]).length = ls + 1 by simp [HLS.out], List.map_append]
            exact h2
          have HO8n : Hid (w3.ownsRow (w.heap.size + 2) 3 1 v8 (out ++ [(p : Int)]).length ((out ++ [(p : Int)]).map (Value.int .i64))) := ho8
          have HAPn : Hid (∀ k, v8.ownBlock = some k → v7.ownBlock ≠ some k) := fun k hk hk' => hap k hk' hk
          clear hown7 hgrow hat ho8 hap hb3 cs2 HO7' HO8' OB7 AP7
          go_wp2_with fail
          go_roundg jj
          case measure => omega
          case rel => exact ⟨jj, stk ++ [y], by omega, by omega, by go_num, cs3, hsz3, HB3, ES2, HO7n, HO8n, HAPn⟩
end Go.Proofs.Ytjlapfgghljidab
