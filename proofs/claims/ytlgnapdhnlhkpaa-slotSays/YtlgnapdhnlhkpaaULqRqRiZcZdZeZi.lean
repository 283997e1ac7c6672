/-
  For SlotOnce, without the program: whatever is shown below a node stands, at some step, under the host of the highest root around it (or under the node itself, if it stands in none).
-/
import Derived.Test.YtlgnapdhnlhkpaaULgLh
import Derived.Test.YtlgnapdhnlhkpaaULiRhRp
import Derived.Test.YtlgnapdhnlhkpaaUTk
import Derived.Test.YtlgnapdhnlhkpaaUTe
import Derived.Test.YtlgnapdhnlhkpaaUXa
import Derived.Test.YtlgnapdhnlhkpaaUZb
import Derived.Test.YtlgnapdhnlhkpaaULcZg
import Derived.Test.YtlgnapdhnlhkpaaUWc
namespace Go.Proofs.Ytlgnapdhnlhkpaa
open Go.RowKit

/-- No root at a node or above it. -/
def NoRoot (S : List Nd) (t : Nat) : Prop := ∀ j r, Up S j t r → (nd S r).h = -1

theorem WF.up_path {S : List Nd} (h : WF S) {j k q : Nat} (hk : k < S.length) (hu : Up S j k q) : (q : Int) ∈ pathF S k := by
  obtain ⟨pre, e⟩ := h.path_suffix hk hu
  rw [e]
  exact List.mem_append_right _ (path_head S q)

theorem host_under {S : List Nd} {T p r H i j : Nat} (hT : NoRoot S T) (hi : Up S i p T) (hj : Up S j p r) (hH : H < S.length) (hh : (nd S r).h = H) : ∃ m, Up S m H T := by
  by_cases hij : i ≤ j
  · obtain ⟨y, h1, h2⟩ := Up.split (i := i) (j := j - i) (by rw [show i + (j - i) = j by omega]; exact hj)
    have := Up.det h1 hi
    subst this
    have := hT _ _ h2
    omega
  · obtain ⟨y, h1, h2⟩ := Up.split (i := j + 1) (j := i - (j + 1)) (by rw [show j + 1 + (i - (j + 1)) = i by omega]; exact hi)
    have h3 : Up S (j + 1) p H := hj.trans (WF.up_one hH (by unfold rightUnder; rw [if_neg (by omega)]; exact hh))
    have := Up.det h1 h3
    subst this
    exact ⟨_, h2⟩

theorem ShR.under {S : List Nd} (h : WF S) {g : Nat → List Int} (G : GivOk S g) {k T i : Nat} (hk : k < S.length) (hT : NoRoot S T) (hu : Up S i k T) : ∀ {j z : Nat}, ShR (showF S g) k j z → ∃ m, Up S m z T
  | 0, z, e => by cases e; exact ⟨i, hu⟩
  | j + 1, z, ⟨y, hy, hz⟩ => by
    obtain ⟨m, hm⟩ := ShR.under h G hk hT hu hy
    have y1 := (ShR.facts h G hk hy).1
    obtain ⟨k', q, e, hk', hq, _, _, _, hru, hw⟩ := show_ways h G y1 hz
    have : z = k' := by omega
    subst this
    have z1 : Up S 1 z q := WF.up_one hq hru
    rcases hw with hw | ⟨_, _, r, j2, hr, hrh, hup⟩ | ⟨_, rfl⟩
    · have q1 : Up S 1 q y := WF.up_one y1 (by unfold rightUnder; rw [if_neg (by omega)]; exact hw)
      exact ⟨_, z1.trans (q1.trans hm)⟩
    · obtain ⟨m2, hm2⟩ := host_under hT hm hup hq hrh
      exact ⟨_, z1.trans hm2⟩
    · exact ⟨_, z1.trans hm⟩

/-- The law's own loop: the host of the last root of a line. -/
def lastHost (S : List Nd) (acc : Int) (l : List Int) : Int := l.foldl (fun acc x => if 0 ≤ (nd S x.toNat).h then (nd S x.toNat).h else acc) acc

theorem last_host {S : List Nd} (h : WF S) : ∀ (n : Nat) {k : Nat}, k < S.length → (pathF S k).length ≤ n → ∀ acc : Int, (lastHost S acc (pathF S k) = acc ∧ NoRoot S k) ∨ ∃ t m : Nat, lastHost S acc (pathF S k) = t ∧ Up S m k t ∧ t < S.length ∧ NoRoot S t
  | 0, k, _, hl, _ => by
    have := path_head S k
    have : 0 < (pathF S k).length := List.length_pos_of_mem this
    omega
  | n + 1, k, hk, hl, acc => by
    by_cases hr : ∃ q : Nat, q < S.length ∧ rightUnder (nd S k) = q
    · obtain ⟨q, hq, hr⟩ := hr
      have e := h.path_up hk hq hr
      rw [e] at hl ⊢
      rw [List.length_cons] at hl
      have hs : lastHost S acc ((k : Int) :: pathF S q) = lastHost S (if 0 ≤ (nd S k).h then (nd S k).h else acc) (pathF S q) := by
        unfold lastHost
        rw [List.foldl_cons, Int.toNat_natCast]
      rw [hs]
      rcases last_host h n hq (by omega) (if 0 ≤ (nd S k).h then (nd S k).h else acc) with ⟨e1, e2⟩ | ⟨t, m, e1, e2, e3, e4⟩
      · by_cases hh : 0 ≤ (nd S k).h
        · rw [if_pos hh] at e1 ⊢
          have : (nd S k).h = q := by unfold rightUnder at hr; rw [if_neg (by omega)] at hr; exact hr
          exact Or.inr ⟨q, 1, e1.trans this, WF.up_one hq hr, hq, e2⟩
        · rw [if_neg hh] at e1 ⊢
          refine Or.inl ⟨e1, fun j r hu => ?_⟩
          cases j with
          | zero =>
            have : k = r := hu
            subst this
            have := (names_parts (node_parts (h.node k hk)).2.1).2.1
            unfold okPl at this
            simp at this
            omega
          | succ j =>
            obtain ⟨y, _, e5, hu2⟩ := hu
            have : y = q := by omega
            subst this
            exact e2 j r hu2
      · exact Or.inr ⟨t, 1 + m, e1, (WF.up_one hq hr).trans e2, e3, e4⟩
    · rw [WF.path_top hr]
      have hno : (nd S k).h = -1 := by
        have := (names_parts (node_parts (h.node k hk)).2.1).2.1
        unfold okPl at this
        simp at this
        by_cases hh : (nd S k).h = -1
        · exact hh
        · refine absurd ⟨(nd S k).h.toNat, ?_, ?_⟩ hr
          · omega
          · unfold rightUnder
            rw [if_neg hh]
            omega
      refine Or.inl ⟨?_, fun j r hu => ?_⟩
      · unfold lastHost
        simp [hno]
      · cases j with
        | zero =>
          have : k = r := hu
          subst this
          exact hno
        | succ j =>
          obtain ⟨y, hy, e5, _⟩ := hu
          exact absurd ⟨y, hy, e5⟩ hr

/-- What is shown below k has on its line the host that SlotOnce reckons. -/
theorem flat_host {S : List Nd} (h : WF S) {k : Nat} (hk : k < S.length) {x : Int} (hx : x ∈ flatF S k) : ∃ q : Nat, x = q ∧ q < S.length ∧ (q = k ∨ (nd S q).u = true) ∧ lastHost S k (pathF S k) ∈ pathF S q := by
  obtain ⟨j, q, e, hq⟩ := mem_orderG h (giv_ok h) hk x hx
  obtain ⟨f1, _, _, f4, _⟩ := ShR.facts h (giv_ok h) hk hq
  refine ⟨q, e, f1, f4, ?_⟩
  rcases last_host h _ hk (Nat.le_refl _) (k : Int) with ⟨e1, e2⟩ | ⟨t, m, e1, e2, _, e4⟩
  · rw [e1]
    obtain ⟨m, hm⟩ := ShR.under h (giv_ok h) hk e2 (i := 0) rfl hq
    exact h.up_path f1 hm
  · rw [e1]
    obtain ⟨m2, hm⟩ := ShR.under h (giv_ok h) hk e4 e2 hq
    exact h.up_path f1 hm

theorem flat_nodup {S : List Nd} (h : WF S) {k : Nat} (hk : k < S.length) : (flatF S k).Nodup := nodup_orderG h (giv_ok h) hk (i := 0) rfl
end Go.Proofs.Ytlgnapdhnlhkpaa

namespace Go.Proofs.Ytlgnapdhnlhkpaa
open Go.RowKit

theorem seen4_low {w w1 : World} {a : Option Addr} {n c : Nat} {p u q v : Int} {o4 : Obj} (hb : Below (w.heap.size + 1 + 1 + 1 + 1) ((((w.alloc (.cells #[.slice a n c] 24)).alloc (.cells #[.int .i64 p, .int .i64 u] 26)).alloc (.cells #[.int .i64 q, .int .i64 v] 26)).alloc o4) w1) :
    w1.cell? ⟨w.heap.size, 0, none⟩ = some (.slice a n c) ∧ w1.cell? ⟨w.heap.size + 1, 0, none⟩ = some (.int .i64 p) ∧ w1.cell? ⟨w.heap.size + 1, 1, none⟩ = some (.int .i64 u) ∧ w1.cell? ⟨w.heap.size + 1 + 1, 0, none⟩ = some (.int .i64 q) ∧ w1.cell? ⟨w.heap.size + 1 + 1, 1, none⟩ = some (.int .i64 v) ∧ w.heap.size + 4 ≤ w1.heap.size ∧ Below w.heap.size w w1 := by
  have hs := hb.size
  simp only [World.size_alloc] at hs
  exact ⟨(hb.cell (by simp; omega)).trans (by go_simp), (hb.cell (by simp; try omega)).trans (by go_simp), (hb.cell (by simp; try omega)).trans (by go_simp), (hb.cell (by simp; try omega)).trans (by go_simp), (hb.cell (by simp; try omega)).trans (by go_simp), by omega, ((three_below _ _ _ _).alloc (by simp; omega) _).trans (hb.mono (by omega))⟩

end Go.Proofs.Ytlgnapdhnlhkpaa

namespace Go.Proofs.Ytlgnapdhnlhkpaa
open Go.RowKit

/-- Behind OwnStore, in a function with three boxes: the row, and what is known of the boxes. -/
theorem own_after {w w1 w2 : World} {a : Option Addr} {c n : Nat} {S : List Nd} {K : Nat → Value} {v : Value} (h0 : 0 < n) (hb1 : Below (w.heap.size + 1 + 1 + 1) (((w.alloc (.cells #[.slice a n c] 24)).alloc (.cells #[.slice none 0 0] 24)).alloc (.cells #[.int .i64 0, .int .i64 0] 26)) w1) (hb2 : Below w1.heap.size w1 w2) (hown : OwnK w1.heap.size S n K v w2) :
    ∃ g cap, v = .slice (some ⟨g, 0, none⟩) n cap ∧ w.heap.size + 3 ≤ g ∧ g < w2.heap.size ∧ n ≤ cap ∧ cap ≤ 9223372036854775807 ∧ OwnK (w.heap.size + 3) S n K (.slice (some ⟨g, 0, none⟩) n cap) (w2.setCell ⟨w.heap.size, 0, none⟩ (.slice (some ⟨g, 0, none⟩) n cap)) ∧
    Below w.heap.size w (w2.setCell ⟨w.heap.size, 0, none⟩ (.slice (some ⟨g, 0, none⟩) n cap)) ∧ (w2.cell? ⟨w.heap.size, 0, none⟩ = some (.slice a n c) ∧ w2.frozen? ⟨w.heap.size, 0, none⟩ = false) ∧
    w2.cell? ⟨w.heap.size + 1, 0, none⟩ = some (.slice none 0 0) ∧ w2.cell? ⟨w.heap.size + 1 + 1, 0, none⟩ = some (.int .i64 0) ∧ w2.cell? ⟨w.heap.size + 1 + 1, 1, none⟩ = some (.int .i64 0) ∧
    w2.frozen? ⟨w.heap.size + 1, 0, none⟩ = false ∧ w2.frozen? ⟨w.heap.size + 1 + 1, 0, none⟩ = false ∧ w2.frozen? ⟨w.heap.size + 1 + 1, 1, none⟩ = false := by
  have hs1 := hb1.size
  simp only [World.size_alloc] at hs1
  have hb3 : Below (w.heap.size + 1 + 1 + 1) _ w2 := hb1.trans (hb2.mono (by omega))
  obtain ⟨l0, l1, l2, l3, z1, z2, z3⟩ := make_low hb3
  have z0 : w2.frozen? ⟨w.heap.size, 0, none⟩ = false := (hb3.frozen (by simp; omega)).trans (by go_simp)
  have hm := hown.1
  obtain ⟨g, cap, rfl, h1, h2, h3, h4⟩ : ∃ g cap, v = .slice (some ⟨g, 0, none⟩) n cap ∧ w1.heap.size ≤ g ∧ g < w2.heap.size ∧ n ≤ cap ∧ cap ≤ 9223372036854775807 := by
    have hl := hm.lt
    rcases hm.2 with ⟨_, h⟩ | ⟨g, cap, cur, h, h1, _, h3, h4, _⟩
    · omega
    · subst h
      exact ⟨g, cap, rfl, h1, (hl g rfl).2, h3, by unfold maxLen at h4; omega⟩
  refine ⟨g, cap, rfl, by omega, h2, h3, h4, ?_, ?_, ⟨l0, z0⟩, l1, l2, l3, z1, z2, z3⟩
  · have ho : OwnK (w.heap.size + 3) S n K (.slice (some ⟨g, 0, none⟩) n cap) w2 := ⟨ownsRow_baseL hown.1 (by omega), fun i hi => ownsRow_baseL (hown.2 i hi) (by omega)⟩
    exact ho.other (fun b hb _ => Below.heap_setCell _ _ _ _ (by simp; omega))
  · exact ((three_below _ _ _ _).trans (hb3.mono (by omega))).setCell (by simp) _

theorem cell_else {W : World} {g o1 b o : Nat} {u v : Value} (hb : b ≠ g) (h : W.cell? ⟨b, o, none⟩ = some v) : (W.setCell ⟨g, o1, none⟩ u).cell? ⟨b, o, none⟩ = some v :=
  (World.cell?_of_block (Below.heap_setCell _ _ _ _ hb)).trans h
theorem frozen_else {W : World} {a b : Addr} {u : Value} (h : W.frozen? b = false) : (W.setCell a u).frozen? b = false := by
  rw [World.frozen?_setCell]; exact h

end Go.Proofs.Ytlgnapdhnlhkpaa

namespace Go.Proofs.Ytlgnapdhnlhkpaa
open Go.RowKit

end Go.Proofs.Ytlgnapdhnlhkpaa

namespace Go.Proofs.Ytlgnapdhnlhkpaa
open Go.RowKit

def RB (w : World) (a : Option Addr) (n c : Nat) (P Q : List Int) (k : Nat) (wr : World) : Prop :=
  Below w.heap.size w wr ∧ w.heap.size + 1 + 1 + 1 ≤ wr.heap.size ∧ wr.cell? ⟨w.heap.size, 0, none⟩ = some (.slice a n c) ∧ (∀ o, wr.frozen? ⟨w.heap.size + 1 + 1, o, none⟩ = false) ∧
  ∃ v0 v1, wr.cell? ⟨w.heap.size + 1 + 1, 0, none⟩ = some v0 ∧ wr.cell? ⟨w.heap.size + 1 + 1, 1, none⟩ = some v1 ∧ (1 ≤ k → wr.ownsRow (w.heap.size + 1 + 1 + 1) 3 1 v0 P.length (P.map (Value.int .i64))) ∧ (2 ≤ k → wr.ownsRow (w.heap.size + 1 + 1 + 1) 3 1 v1 Q.length (Q.map (Value.int .i64)))

theorem owns_below {w w' : World} {B : Nat} {v : Value} {l : List Int} (h : w.ownsRow B 3 1 v l.length (l.map (Value.int .i64))) (hb : Below w.heap.size w w') : w'.ownsRow B 3 1 v l.length (l.map (Value.int .i64)) :=
  h.kept (row := none) ⟨hb.os, hb.tape, hb.output, hb.size, fun k hk _ => hb.block k hk⟩ (by
    cases hv : v.ownBlock with
    | none => exact Or.inl rfl
    | some k => exact Or.inr (fun e => by cases e))

theorem owns_set {w : World} {B b o : Nat} {v x : Value} {l : List Int} (h : w.ownsRow B 3 1 v l.length (l.map (Value.int .i64))) (hb : ∀ k, v.ownBlock = some k → k ≠ b) : (w.setCell ⟨b, o, none⟩ x).ownsRow B 3 1 v l.length (l.map (Value.int .i64)) :=
  h.kept (grownBy_setCell w ⟨b, o, none⟩ x) (by
    cases hv : v.ownBlock with
    | none => exact Or.inl rfl
    | some k => exact Or.inr (fun e => hb k hv (by simpa using e)))

theorem contains_take (P : List Int) (j i : Nat) (h : j < P.length) (x : Nat) (hx : P.getD j 0 = (x : Int)) : (P.take (j + 1)).contains (i : Int) = if i = x then true else (P.take j).contains (i : Int) := by
  rw [List.take_add_one, List.getElem?_eq_getElem h]
  rw [getD_elem P 0 h] at hx
  rw [hx]
  by_cases e : i = x
  · subst e
    simp
  · rw [if_neg e]
    have : ¬ (i : Int) = (x : Int) := by omega
    simp [this]

end Go.Proofs.Ytlgnapdhnlhkpaa

namespace Go.Proofs.Ytlgnapdhnlhkpaa
open Go.RowKit

set_option maxHeartbeats 400000 in
theorem containsFunc_in (K : Nat) (caps : Array Value) (p : Int → Bool) (a : Option Addr) (c : Nat) (ks : List Int) (w : World) (hbig : ks.length ≤ 9223372036854775807) (hks : IntsAt w a ks)
    (eg : ∀ args w, (callFunc K args).run Try.prog w = .ok (.enter K args) w) (hf : ∀ x ∈ ks, ∀ w1, Below w.heap.size w w1 → Calls Try.prog K (#[.int .i64 x] ++ caps) w1 fun e w2 => e = .returned (.bool (p x)) ∧ Below w1.heap.size w1 w2) :
    Calls Try.prog 84 #[.slice a ks.length c, .func (.func K) #[] caps] w fun e w' => e = .returned (.bool (ks.any p)) ∧ Below w.heap.size w w' := by
  have h := indexFunc_in K caps p a c ks w hbig hks eg hf
  have any_of : ∀ k, k < ks.length → p (ks.getD k 0) = true → ks.any p = true := fun k hk hp => List.any_eq_true.2 ⟨ks.getD k 0, by rw [getD_elem _ _ hk]; exact List.getElem_mem hk, hp⟩
  have none_of : (∀ i, i < ks.length → p (ks.getD i 0) = false) → ks.any p = false := fun H => by
    rw [List.any_eq_false]
    intro x hx
    obtain ⟨i, hi, rfl⟩ := List.getElem_of_mem hx
    have := H i hi
    rw [getD_elem _ _ hi] at this
    simp [this]
  have H : Hid _ := any_of
  have N : Hid _ := none_of
  clear any_of none_of hks hf
  go_enter Try.func84, Try.ntmps84
  go_wp2_with (go_at_call 80; refine h.mono ?_; rintro e w' ⟨r, rfl, hb, hr⟩)
  go_ret
  refine ⟨?_, hb⟩
  rcases hr with ⟨rfl, hall⟩ | ⟨k, hk, rfl, hp, _⟩
  · rw [N.out hall]; rfl
  · rw [H.out k hk hp]
    simp

theorem roots_place {S : List Nd} {p q : Nat} (hq : q < S.length) {y : Int} (hy : y ∈ rootsF S p q) : ∃ x : Nat, y = x ∧ x < S.length := by
  obtain ⟨x, _, e1, e2, _⟩ := mem_path hq (mem_roots.1 hy).1
  exact ⟨x, e1, e2⟩

theorem roots_len {S : List Nd} {p q : Nat} : (rootsF S p q).length ≤ S.length + 1 := Nat.le_trans (flt_le _ _) (path_len S q)

theorem seen_low {w w1 : World} {a : Option Addr} {n c : Nat} {p u q v : Int} (hb : Below (w.heap.size + 1 + 1 + 1) (((w.alloc (.cells #[.slice a n c] 24)).alloc (.cells #[.int .i64 p, .int .i64 u] 26)).alloc (.cells #[.int .i64 q, .int .i64 v] 26)) w1) :
    w1.cell? ⟨w.heap.size, 0, none⟩ = some (.slice a n c) ∧ w1.cell? ⟨w.heap.size + 1, 0, none⟩ = some (.int .i64 p) ∧ w1.cell? ⟨w.heap.size + 1, 1, none⟩ = some (.int .i64 u) ∧ w1.cell? ⟨w.heap.size + 1 + 1, 0, none⟩ = some (.int .i64 q) ∧ w1.cell? ⟨w.heap.size + 1 + 1, 1, none⟩ = some (.int .i64 v) := by
  refine ⟨?_, ?_, ?_, ?_, ?_⟩
  all_goals exact (hb.cell (by first | (simp; done) | (simp; omega))).trans (by go_simp)

end Go.Proofs.Ytlgnapdhnlhkpaa

namespace Go.Proofs.Ytlgnapdhnlhkpaa
open Go.RowKit

theorem s5_wfZi : WF S5 := (wf_iff _).1 (by decide)
def S6 : List Nd := S5.set 3 (rootNd (nd S5 3) 1 true)
def S7 : List Nd := enterS (leaveG S6 2) 3 2 0
theorem s6_wf : WF S6 := (wf_iff _).1 (by decide)
theorem s7_wf : WF S7 := (wf_iff _).1 (by decide)
theorem s6_check : tcheckE S6 [(((3 : Nat) : Int), 1), (((2 : Nat) : Int), 1)] = 0 := by decide
theorem s7_a : seenF S7 0 2 = false := by decide
theorem s7_b : seenF S7 3 2 = true := by decide
theorem s7_p : pathF S7 2 = [2, 3, 1, 0] := by decide
theorem s7_t : targetF S7 2 0 = 1 := by decide
theorem s7_0 : findE S7 ((0 : Nat) : Int) 1 = 0 := by decide
theorem s7_2 : findE S7 ((2 : Nat) : Int) 1 = 0 := by decide
theorem s7_3 : findE S7 ((3 : Nat) : Int) 1 = 0 := by decide
theorem s5_f1 : findE S5 ((1 : Nat) : Int) 1 = 0 := by decide

/-- The variables of veiled: the store, the hands, the root's hand. -/
def VL (X : World) (bs bh br g : Nat) : Prop :=
  (X.cell? ⟨bs, 0, none⟩ = some (.slice (some ⟨g, 0, none⟩) 6 6) ∧ (∀ o, X.frozen? ⟨bs, o, none⟩ = false)) ∧ (X.cell? ⟨bh, 0, none⟩ = some (.int .i64 0) ∧ X.cell? ⟨bh, 1, none⟩ = some (.int .i64 1) ∧ X.cell? ⟨bh, 2, none⟩ = some (.int .i64 1) ∧ X.cell? ⟨bh, 3, none⟩ = some (.int .i64 1) ∧ X.cell? ⟨bh, 4, none⟩ = some (.int .i64 2) ∧ X.cell? ⟨bh, 5, none⟩ = some (.int .i64 1)) ∧ (X.cell? ⟨br, 0, none⟩ = some (.int .i64 3) ∧ X.cell? ⟨br, 1, none⟩ = some (.int .i64 1))

theorem VL.below {X Y : World} {bs bh br g : Nat} (h : VL X bs bh br g) (hb : Below X.heap.size X Y) : VL Y bs bh br g := by
  obtain ⟨⟨a0, a1⟩, ⟨b0, b1, b2, b3, b4, b5⟩, c0, c1⟩ := h
  have l0 := World.block_lt_of_cell? _ _ a0
  have l1 := World.block_lt_of_cell? _ _ b0
  have l2 := World.block_lt_of_cell? _ _ c0
  exact ⟨⟨(hb.cell l0).trans a0, fun o => (hb.frozen (p := ⟨bs, o, none⟩) l0).trans (a1 o)⟩, ⟨(hb.cell (p := ⟨bh, 0, none⟩) l1).trans b0, (hb.cell (p := ⟨bh, 1, none⟩) l1).trans b1, (hb.cell (p := ⟨bh, 2, none⟩) l1).trans b2, (hb.cell (p := ⟨bh, 3, none⟩) l1).trans b3, (hb.cell (p := ⟨bh, 4, none⟩) l1).trans b4, (hb.cell (p := ⟨bh, 5, none⟩) l1).trans b5⟩, (hb.cell (p := ⟨br, 0, none⟩) l2).trans c0, (hb.cell (p := ⟨br, 1, none⟩) l2).trans c1⟩

theorem VL.set {X : World} {bs bh br g g' : Nat} (h : VL X bs bh br g) (h1 : bs ≠ bh) (h2 : bs ≠ br) : VL (X.setCell ⟨bs, 0, none⟩ (.slice (some ⟨g', 0, none⟩) 6 6)) bs bh br g' := by
  obtain ⟨⟨a0, a1⟩, ⟨b0, b1, b2, b3, b4, b5⟩, c0, c1⟩ := h
  refine ⟨⟨World.cell?_setCell_same _ _ _ a0, fun o => by rw [World.frozen?_setCell]; exact a1 o⟩, ⟨?_, ?_, ?_, ?_, ?_, ?_⟩, ?_, ?_⟩
  all_goals
    rw [World.cell?_setCell_other _ _ _ _ (addr_block (by first | exact h1 | exact h2))]
    assumption

end Go.Proofs.Ytlgnapdhnlhkpaa
