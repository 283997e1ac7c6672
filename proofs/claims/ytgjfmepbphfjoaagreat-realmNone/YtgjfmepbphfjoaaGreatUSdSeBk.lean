/-
  Contracts of inForm and checkNode: a node by itself.
-/
import Derived.Test.YtgjfmepbphfjoaaGreatUSaSbScBa
namespace Go.Proofs.YtgjfmepbphfjoaaGreat
open Go.RowKit

theorem Below.drewNs {B : Nat} {a w : World} (h : Below B a w) (q : Nat) : Below B a (w.drewN q) := ⟨h.os, h.tape, h.output, h.size, h.block⟩

set_option maxHeartbeats 4000000 in
theorem inForm_any (x : Nd) (ka : Option Addr) (kc : Nat) (w : World) (hbig : x.ks.length ≤ 9223372036854775807) (hks : IntsAt w ka x.ks) :
    Calls Tryz.prog 97 #[.agg #[.bool x.u, .int .i64 x.n, .int .i64 x.t, .int .i64 x.m, .int .i64 x.p, .slice ka x.ks.length kc, .int .i64 x.h, .bool x.c]] w fun e w' => e = .returned (.bool (formB x)) ∧ Below w.heap.size w w' := by
  obtain ⟨u, n, t, m, p, ks, h, c⟩ := x
  unfold formB
  dsimp only at *
  cases u
  · have hs := fun (W : World) (g1 : IntsAt W ka ks) => sameNode_unused n n t m p ks ka kc h c W rfl hbig g1
    have i1 : ∀ o1 o2 q, IntsAt (((w.alloc o1).alloc o2).drewN q) ka ks := fun o1 o2 q => hks.below (Below.drewNs (((Below.refl _ _).alloc (Nat.le_refl _) _).alloc (by simp) _) q)
    have I1 : Hid _ := i1
    clear i1 hks
    generalize hL : ks.length = L at *
    simp only [Bool.false_eq_true, if_false]
    generalize decide (t = 0 ∧ m = 0 ∧ p = -1 ∧ ks = [] ∧ h = -1 ∧ c = false) = r at *
    go_enter Tryz.func97, Tryz.ntmps97
    go_wp2_with fail
    go_region_with (first | (go_at_call 75; refine (unused_any _ _).mono ?_; rintro e w' ⟨rfl, rfl⟩) | (go_at_call 78; refine (hs _ (I1.out _ _ _)).mono ?_; rintro e w' ⟨rfl, hb⟩))
    all_goals go_wp2
    all_goals go_ret
    all_goals exact ⟨rfl, (Below.drewNs (((Below.refl _ _).alloc (Nat.le_refl _) _).alloc (by simp) _) _).trans (hb.mono (by simp [World.drewN]; omega))⟩
  · clear hks
    simp only [if_true]
    by_cases hn : n = 0
    · subst hn
      simp only [if_true]
      go_enter Tryz.func97, Tryz.ntmps97
      go_wp2
      go_ret
      exact ⟨rfl, (Below.refl _ _).alloc (Nat.le_refl _) _⟩
    · simp only [if_neg hn]
      by_cases hh : h = -1
      · subst hh
        simp only [if_true]
        go_enter Tryz.func97, Tryz.ntmps97
        go_wp2
        go_ret
        exact ⟨rfl, (Below.refl _ _).alloc (Nat.le_refl _) _⟩
      · simp only [if_neg hh]
        go_enter Tryz.func97, Tryz.ntmps97
        go_wp2
        go_ret
        exact ⟨rfl, (Below.refl _ _).alloc (Nat.le_refl _) _⟩

def nodeE (N : Int) (x : Nd) : Int := if rangeB x then (if namesB N x then (if formB x then 0 else 3) else 4) else 2

theorem node_low {w w1 : World} {u : Bool} {n t m p : Int} {k : Value} {h : Int} {c : Bool} (hb : Below (w.heap.size + 1) (w.alloc (.cells #[.bool u, .int .i64 n, .int .i64 t, .int .i64 m, .int .i64 p, k, .int .i64 h, .bool c] 47)) w1) :
    w1.cell? ⟨w.heap.size, 0, none⟩ = some (.bool u) ∧ w1.cell? ⟨w.heap.size, 1, none⟩ = some (.int .i64 n) ∧ w1.cell? ⟨w.heap.size, 2, none⟩ = some (.int .i64 t) ∧ w1.cell? ⟨w.heap.size, 3, none⟩ = some (.int .i64 m) ∧ w1.cell? ⟨w.heap.size, 4, none⟩ = some (.int .i64 p) ∧ w1.cell? ⟨w.heap.size, 5, none⟩ = some k ∧ w1.cell? ⟨w.heap.size, 6, none⟩ = some (.int .i64 h) ∧ w1.cell? ⟨w.heap.size, 7, none⟩ = some (.bool c) :=
  ⟨(hb.cell (by simp)).trans (by go_simp), (hb.cell (by simp)).trans (by go_simp), (hb.cell (by simp)).trans (by go_simp), (hb.cell (by simp)).trans (by go_simp), (hb.cell (by simp)).trans (by go_simp), (hb.cell (by simp)).trans (by go_simp), (hb.cell (by simp)).trans (by go_simp), (hb.cell (by simp)).trans (by go_simp)⟩

set_option maxHeartbeats 4000000 in
theorem checkNode_any (x : Nd) (ka : Option Addr) (kc : Nat) (N : Int) (w : World) (hN : 0 ≤ N ∧ N ≤ 24) (hbig : x.ks.length ≤ 9223372036854775807) (hks : IntsAt w ka x.ks) :
    Calls Tryz.prog 49 #[.agg #[.bool x.u, .int .i64 x.n, .int .i64 x.t, .int .i64 x.m, .int .i64 x.p, .slice ka x.ks.length kc, .int .i64 x.h, .bool x.c], .int .i64 N] w fun e w' => e = .returned (.int .i64 (nodeE N x)) ∧ Below w.heap.size w w' := by
  unfold nodeE
  have d1 := fun W => inRange_any x (.slice ka x.ks.length kc) W
  have d2 := fun (W : World) (g : IntsAt W ka x.ks) => namesPlaces_any x ka kc N W hN hbig g
  have d3 := fun (W : World) (g : IntsAt W ka x.ks) => inForm_any x ka kc W hbig g
  have i1 : ∀ o1 w1, Below (w.heap.size + 1) (w.alloc o1) w1 → IntsAt w1 ka x.ks := fun o1 w1 h1 => hks.below (((Below.refl _ _).alloc (Nat.le_refl _) _).trans (h1.mono (by omega)))
  have I1 : Hid _ := i1
  clear i1 hks
  generalize x.ks.length = L at *
  generalize rangeB x = b1 at *
  generalize namesB N x = b2 at *
  generalize formB x = b3 at *
  cases b1
  rotate_left
  cases b2
  rotate_left
  cases b3
  all_goals
    go_enter Tryz.func49, Tryz.ntmps49
    go_wp2_with (first
      | (go_at_call 95; refine (d1 _).mono ?_; rintro e w1 ⟨rfl, hb1⟩; simp only [World.size_alloc] at hb1; have B1 := hb1; obtain ⟨l0, l1, l2, l3, l4, l5, l6, l7⟩ := node_low hb1)
      | (go_at_call 96; refine (d2 _ (I1.out _ _ B1)).mono ?_; rintro e w2 ⟨rfl, hb2⟩; have B2 := B1.trans (hb2.mono (by have := B1.size; simp only [World.size_alloc] at this; omega)); clear l0 l1 l2 l3 l4 l5 l6 l7; obtain ⟨l0, l1, l2, l3, l4, l5, l6, l7⟩ := node_low B2)
      | (go_at_call 97; refine (d3 _ (I1.out _ _ B2)).mono ?_; rintro e w3 ⟨rfl, hb3⟩; have B3 := B2.trans (hb3.mono (by have := B2.size; simp only [World.size_alloc] at this; omega))))
  all_goals go_ret
  all_goals first
    | exact ⟨rfl, ((Below.refl _ _).alloc (Nat.le_refl _) _).trans (B3.mono (by omega))⟩
    | exact ⟨rfl, ((Below.refl _ _).alloc (Nat.le_refl _) _).trans (B2.mono (by omega))⟩
    | exact ⟨rfl, ((Below.refl _ _).alloc (Nat.le_refl _) _).trans (B1.mono (by omega))⟩
end Go.Proofs.YtgjfmepbphfjoaaGreat

namespace Go.Proofs.YtgjfmepbphfjoaaGreat
open Go.RowKit

def nd (S : List Nd) (i : Nat) : Nd := S.getD i zeroNd

def NdAt (w : World) (b o : Nat) (x : Nd) : Prop :=
  w.cell? ⟨b, o, none⟩ = some (.bool x.u) ∧ w.cell? ⟨b, o + 1, none⟩ = some (.int .i64 x.n) ∧ w.cell? ⟨b, o + 2, none⟩ = some (.int .i64 x.t) ∧ w.cell? ⟨b, o + 3, none⟩ = some (.int .i64 x.m) ∧
  w.cell? ⟨b, o + 4, none⟩ = some (.int .i64 x.p) ∧ (∃ ka kc, w.cell? ⟨b, o + 5, none⟩ = some (.slice ka x.ks.length kc) ∧ IntsAt w ka x.ks) ∧ w.cell? ⟨b, o + 6, none⟩ = some (.int .i64 x.h) ∧ w.cell? ⟨b, o + 7, none⟩ = some (.bool x.c)

theorem NdAt.below {w w' : World} {b o : Nat} {x : Nd} (h : NdAt w b o x) (hb : Below w.heap.size w w') : NdAt w' b o x := by
  obtain ⟨c0, c1, c2, c3, c4, ⟨ka, kc, c5, hk⟩, c6, c7⟩ := h
  have hlt : b < w.heap.size := World.block_lt_of_cell? w ⟨b, o, none⟩ c0
  exact ⟨(hb.cell hlt).trans c0, (hb.cell hlt).trans c1, (hb.cell hlt).trans c2, (hb.cell hlt).trans c3, (hb.cell hlt).trans c4, ⟨ka, kc, (hb.cell hlt).trans c5, hk.below hb⟩, (hb.cell hlt).trans c6, (hb.cell hlt).trans c7⟩

/-- A slice of nodes: its length is the list's; where it has any, it leads to their cells. -/
def NdsAt (w : World) (a : Option Addr) (S : List Nd) : Prop :=
  ∀ i, i < S.length → ∃ b o, a = some ⟨b, o, none⟩ ∧ NdAt w b (o + i * 8) (nd S i)

theorem NdsAt.below {w w' : World} {a : Option Addr} {S : List Nd} (h : NdsAt w a S) (hb : Below w.heap.size w w') : NdsAt w' a S := fun i hi => by
  obtain ⟨b, o, e, hn⟩ := h i hi
  exact ⟨b, o, e, hn.below hb⟩

/-- No list of children is longer than a slice can be. -/
def Big (S : List Nd) : Prop := ∀ i, i < S.length → (nd S i).ks.length ≤ 9223372036854775807

def FitK (S : List Nd) (i : Nat) (x : Int) : Prop := x ≠ -1 ∧ (nd S x.toNat).u = true ∧ (nd S x.toNat).p = i
def FitU (S : List Nd) (k : Nat) : Prop := ∀ i, i < k → ∀ x ∈ (nd S i).ks, FitK S i x
def cntU (S : List Nd) (k j : Nat) : Nat := ((S.take k).flatMap Nd.ks).count (j : Int)
def cntK (l : List Int) (q j : Nat) : Nat := (l.take q).count (j : Int)
def KidsOk (S : List Nd) : Prop := FitU S S.length ∧ ∀ j, j < S.length → cntU S S.length j ≤ 1 ∧ ((nd S j).p ≠ -1 → cntU S S.length j ≠ 0)

theorem nd_elem {S : List Nd} {i : Nat} (h : i < S.length) : nd S i = S[i] := getD_elem S zeroNd h

theorem cntU_zero (S : List Nd) (j : Nat) : cntU S 0 j = 0 := by simp [cntU]
theorem cntU_succ (S : List Nd) (k j : Nat) (h : k < S.length) : cntU S (k + 1) j = cntU S k j + (nd S k).ks.count (j : Int) := by
  unfold cntU
  rw [List.take_succ_eq_append_getElem h, List.flatMap_append, List.count_append, nd_elem h]
  simp
theorem cntK_zero (l : List Int) (j : Nat) : cntK l 0 j = 0 := by simp [cntK]
theorem cntK_all (l : List Int) (j : Nat) : cntK l l.length j = l.count (j : Int) := by simp [cntK]
theorem cntK_succ (l : List Int) (q j : Nat) (h : q < l.length) : cntK l (q + 1) j = cntK l q j + (if l.getD q 0 = (j : Int) then 1 else 0) := by
  unfold cntK
  rw [List.take_succ_eq_append_getElem h, List.count_append, getD_elem l 0 h]
  by_cases e : l[q] = (j : Int) <;> simp [e]
theorem cntK_le (l : List Int) (q j : Nat) : cntK l q j ≤ q := by
  unfold cntK
  exact Nat.le_trans List.count_le_length (by rw [List.length_take]; omega)

theorem cntU_other (S : List Nd) (k j : Nat) (hk : k ≤ S.length) (hF : FitU S k) (hp : (nd S j).p = k) : cntU S k j = 0 := by
  unfold cntU
  rw [List.count_eq_zero]
  intro hm
  obtain ⟨y, hy, hj⟩ := List.mem_flatMap.1 hm
  obtain ⟨i, hi, rfl⟩ := List.getElem_of_mem hy
  rw [List.length_take] at hi
  have h3 := hF i (by omega) (j : Int) (by rw [nd_elem (by omega)]; simpa using hj)
  have := h3.2.2
  simp only [Int.toNat_natCast] at this
  omega
end Go.Proofs.YtgjfmepbphfjoaaGreat

namespace Go.Proofs.YtgjfmepbphfjoaaGreat
open Go.RowKit

theorem infoK : (Tryz.prog.info? 3).map (fun i => (i.zero, i.size, i.bytes)) = some (some (.int .i64 0), 1, 8) := by kernel_rfl
theorem makeIntsK (n : Nat) (hn : n ≤ 1000000) (w : World) : (Instr.makeSlice 29 (.int .i64 (n : Int)) (.int .i64 (n : Int))).run Tryz.prog w = .ok (.slice (some ⟨w.heap.size, 0, none⟩) n n) (w.alloc (.cells (madeCells #[.int .i64 0] n) 3)) :=
  run_make_row' (P := Tryz.prog) 29 3 (.int .i64 0) 8 Tryz.underlying29 infoK rfl .i64 .i64 n (by omega) (by omega) w
theorem ints_row {w : World} {g t : Nat} {ks : List Int} (h : w.rowIs g t ks.length (fun j => .int .i64 (ks.getD j 0))) : IntsAt w (some ⟨g, 0, none⟩) ks := fun i hi => ⟨g, 0, rfl, by rw [Nat.zero_add]; exact h.cell hi⟩

set_option maxHeartbeats 1000000 in
theorem copyKids_any (ka : Option Addr) (kc : Nat) (ks : List Int) (w : World) (hk : ks.length ≤ 1000000) (hks : IntsAt w ka ks) :
    Calls Tryz.prog 73 #[.slice ka ks.length kc] w fun e w' => e = .returned (.slice (some ⟨w.heap.size, 0, none⟩) ks.length ks.length) ∧ Below w.heap.size w w' ∧ w'.rowIs w.heap.size 3 ks.length (fun j => .int .i64 (ks.getD j 0)) := by
  have hmk := makeIntsK ks.length hk
  have hsz : (Tryz.prog.info? 3).map (·.size) = some 1 := by kernel_rfl
  have HKS : Hid (∀ o1, IntsAt (w.alloc o1) ka ks) := fun o1 => hks.below (one_belowS _ _)
  have HG : Hid ((w.alloc (.cells (madeCells #[.int .i64 0] ks.length) 3)).heap[w.heap.size]? = some (.cells (madeCells #[.int .i64 0] ks.length).toList.toArray 3 (0, 0))) := by
    have := heap_alloc_new w (.cells (madeCells #[.int .i64 0] ks.length) 3)
    show _ = _
    simpa using this
  have HP : Hid (∀ o1, 0 < (ks.map (Value.int .i64)).length → some (⟨w.heap.size, 0, none⟩ : Addr) = some ⟨w.heap.size, 0, none⟩ ∧ ∃ ad, ka = some ad ∧ ∀ j v, (ks.map (Value.int .i64))[j]? = some v → (w.alloc o1).cell? (ad.add j) = some v) := fun o1 h0 => by
    refine ⟨rfl, ?_⟩
    obtain ⟨b, o, rfl, _⟩ := HKS.out o1 0 (by simpa using h0)
    refine ⟨_, rfl, fun j v hj => ?_⟩
    obtain ⟨hl, hv⟩ := List.getElem?_eq_some_iff.1 hj
    obtain ⟨b', o', e', hc⟩ := HKS.out o1 j (by simpa using hl)
    cases e'
    rw [List.getElem_map] at hv
    rw [getD_elem ks 0 (by simpa using hl), hv] at hc
    rw [Addr.add_lit]; exact hc
  have HSP : Hid (splice (madeCells #[.int .i64 0] ks.length).toList 0 (ks.map (Value.int .i64)) = ks.map (Value.int .i64)) := by
    show splice _ _ _ = _
    simp [splice, size_madeCells]
  clear hks
  go_enter Tryz.func73, Tryz.ntmps73
  go_wp2_with (refine wpList_copy_splice rfl (.tmp 7) (.tmp 8) 29 29 rfl 3 Tryz.underlying29 hsz (some ⟨w.heap.size, 0, none⟩) ka ks.length ks.length ks.length kc rfl rfl w.heap.size 0 (madeCells #[.int .i64 0] ks.length).toList 3 HG.out (ks.map (Value.int .i64)) (by simp) (HP.out _) (by simp [size_madeCells]) (by intro v hv; simp at hv; obtain ⟨y, _, rfl⟩ := hv; rfl) w.heap.size _ (Below.refl _ _) (Nat.le_refl _) ?_)
  intro w3 hw3 hb3
  have HW3 : Hid (w3.rowIs w.heap.size 3 ks.length (fun j => .int .i64 (ks.getD j 0))) := by
    refine ⟨_, hw3.out, ?_, fun i hi => ?_⟩
    · rw [HSP.out]; simp
    · rw [HSP.out]
      simp [hi]
  have HB3 : Hid (Below w.heap.size w w3) := (one_belowS _ _).trans hb3
  clear hb3 hw3
  go_wp2
  go_ret
  exact ⟨rfl, HB3.out, HW3.out⟩
end Go.Proofs.YtgjfmepbphfjoaaGreat
