/-
  The reference's Freed.
-/
import Derived.Test.YtjlapfgghljidaaURjRc
import Derived.Deep.RegionWith
import Derived.Test.YtjlapfgghljidaaURaRbRhRiRz
namespace Go.Proofs.Ytjlapfgghljidaa
open Go.RowKit

/-- Does the reference see something hang on the node at k, at i? -/
def hangB (S : List Nd) (k : Nat) (i : Nat) : Bool := (decide (i = k) && decide (rightUnder (nd S i) ≠ -1)) || decide (rightUnder (nd S i) = (k : Int))

theorem box8_keep {W W' : World} {b : Nat} {a0 a1 a2 a3 a4 a5 a6 a7 : Value} (hb : Below W.heap.size W W')
    (h0 : W.cell? ⟨b, 0, none⟩ = some a0) (h1 : W.cell? ⟨b, 1, none⟩ = some a1) (h2 : W.cell? ⟨b, 2, none⟩ = some a2) (h3 : W.cell? ⟨b, 3, none⟩ = some a3) (h4 : W.cell? ⟨b, 4, none⟩ = some a4) (h5 : W.cell? ⟨b, 5, none⟩ = some a5) (h6 : W.cell? ⟨b, 6, none⟩ = some a6) (h7 : W.cell? ⟨b, 7, none⟩ = some a7) :
    W'.cell? ⟨b, 0, none⟩ = some a0 ∧ W'.cell? ⟨b, 1, none⟩ = some a1 ∧ W'.cell? ⟨b, 2, none⟩ = some a2 ∧ W'.cell? ⟨b, 3, none⟩ = some a3 ∧ W'.cell? ⟨b, 4, none⟩ = some a4 ∧ W'.cell? ⟨b, 5, none⟩ = some a5 ∧ W'.cell? ⟨b, 6, none⟩ = some a6 ∧ W'.cell? ⟨b, 7, none⟩ = some a7 := by
  have hl := World.block_lt_of_cell? _ _ h0
  exact ⟨(hb.cell (by exact hl)).trans h0, (hb.cell (by exact hl)).trans h1, (hb.cell (by exact hl)).trans h2, (hb.cell (by exact hl)).trans h3, (hb.cell (by exact hl)).trans h4, (hb.cell (by exact hl)).trans h5, (hb.cell (by exact hl)).trans h6, (hb.cell (by exact hl)).trans h7⟩

theorem freed_low {w w1 : World} {a : Option Addr} {n c : Nat} {p u : Int} {o4 : Obj} (hb : Below (w.heap.size + 1 + 1 + 1 + 1) ((((w.alloc (.cells #[.slice a n c] 24)).alloc (.cells #[.int .i64 p, .int .i64 u] 26)).alloc (.cells #[.slice none 0 0] 24)).alloc o4) w1) :
    w1.cell? ⟨w.heap.size, 0, none⟩ = some (.slice a n c) ∧ w1.cell? ⟨w.heap.size + 1, 0, none⟩ = some (.int .i64 p) ∧ w1.cell? ⟨w.heap.size + 1, 1, none⟩ = some (.int .i64 u) ∧ w1.cell? ⟨w.heap.size + 1 + 1, 0, none⟩ = some (.slice none 0 0) ∧ w1.frozen? ⟨w.heap.size, 0, none⟩ = false ∧ w1.frozen? ⟨w.heap.size + 1 + 1, 0, none⟩ = false ∧ w.heap.size + 4 ≤ w1.heap.size ∧ Below w.heap.size w w1 := by
  have hs := hb.size
  simp only [World.size_alloc] at hs
  exact ⟨(hb.cell (by simp; omega)).trans (by go_simp), (hb.cell (by simp; try omega)).trans (by go_simp), (hb.cell (by simp; try omega)).trans (by go_simp), (hb.cell (by simp; try omega)).trans (by go_simp), (hb.frozen (by simp; try omega)).trans (by go_simp), (hb.frozen (by simp; try omega)).trans (by go_simp), by omega, ((three_below _ _ _ _).alloc (by simp; omega) _).trans (hb.mono (by omega))⟩

theorem own_afterF {w wr w2 : World} {a : Option Addr} {c n : Nat} {S : List Nd} {K : Nat → Value} {v : Value} {p u : Int} (h0 : 0 < n) (hsz : w.heap.size + 4 ≤ wr.heap.size) (hB : Below w.heap.size w wr)
    (l0 : wr.cell? ⟨w.heap.size, 0, none⟩ = some (.slice a n c)) (l1 : wr.cell? ⟨w.heap.size + 1, 0, none⟩ = some (.int .i64 p)) (l2 : wr.cell? ⟨w.heap.size + 1, 1, none⟩ = some (.int .i64 u)) (l3 : wr.cell? ⟨w.heap.size + 1 + 1, 0, none⟩ = some (.slice none 0 0))
    (z0 : wr.frozen? ⟨w.heap.size, 0, none⟩ = false) (z1 : wr.frozen? ⟨w.heap.size + 1 + 1, 0, none⟩ = false) (hb2 : Below wr.heap.size wr w2) (hown : OwnK wr.heap.size S n K v w2) :
    ∃ g cap, v = .slice (some ⟨g, 0, none⟩) n cap ∧ w.heap.size + 4 ≤ g ∧ g < w2.heap.size ∧ n ≤ cap ∧ cap ≤ 9223372036854775807 ∧ OwnK (w.heap.size + 4) S n K (.slice (some ⟨g, 0, none⟩) n cap) (w2.setCell ⟨w.heap.size, 0, none⟩ (.slice (some ⟨g, 0, none⟩) n cap)) ∧
    Below w.heap.size w (w2.setCell ⟨w.heap.size, 0, none⟩ (.slice (some ⟨g, 0, none⟩) n cap)) ∧ (w2.cell? ⟨w.heap.size, 0, none⟩ = some (.slice a n c) ∧ w2.frozen? ⟨w.heap.size, 0, none⟩ = false) ∧
    w2.cell? ⟨w.heap.size + 1, 0, none⟩ = some (.int .i64 p) ∧ w2.cell? ⟨w.heap.size + 1, 1, none⟩ = some (.int .i64 u) ∧ w2.cell? ⟨w.heap.size + 1 + 1, 0, none⟩ = some (.slice none 0 0) ∧ w2.frozen? ⟨w.heap.size + 1 + 1, 0, none⟩ = false := by
  have hm := hown.1
  obtain ⟨g, cap, rfl, h1, h2, h3, h4⟩ : ∃ g cap, v = .slice (some ⟨g, 0, none⟩) n cap ∧ wr.heap.size ≤ g ∧ g < w2.heap.size ∧ n ≤ cap ∧ cap ≤ 9223372036854775807 := by
    have hl := hm.lt
    rcases hm.2 with ⟨_, h⟩ | ⟨g, cap, cur, h, h1, _, h3, h4, _⟩
    · omega
    · subst h
      exact ⟨g, cap, rfl, h1, (hl g rfl).2, h3, by unfold maxLen at h4; omega⟩
  refine ⟨g, cap, rfl, by omega, h2, h3, h4, ?_, ?_, ⟨(hb2.cell (by show w.heap.size < _; omega)).trans l0, (hb2.frozen (by show w.heap.size < _; omega)).trans z0⟩, (hb2.cell (by show w.heap.size + 1 < _; omega)).trans l1, (hb2.cell (by show w.heap.size + 1 < _; omega)).trans l2, (hb2.cell (by show w.heap.size + 1 + 1 < _; omega)).trans l3, (hb2.frozen (by show w.heap.size + 1 + 1 < _; omega)).trans z1⟩
  · have ho : OwnK (w.heap.size + 4) S n K (.slice (some ⟨g, 0, none⟩) n cap) w2 := ⟨ownsRow_baseL hown.1 (by omega), fun i hi => ownsRow_baseL (hown.2 i hi) (by omega)⟩
    exact ho.other (fun b hb _ => Below.heap_setCell _ _ _ _ (by simp; omega))
  · exact (hB.trans (hb2.mono hB.size)).setCell (by simp) _

theorem OwnK.putN {B : Nat} {S : List Nd} {q : Nat} {K : Nat → Value} {g cap : Nat} {w : World} (h : OwnK B S q K (.slice (some ⟨g, 0, none⟩) q cap) w) {k : Nat} (hk : k < q) (hq : S.length = q) (y : Nd) (hy : y.ks = []) :
    OwnK B (S.set k y) q (fun i => if i = k then .slice none 0 0 else K i) (.slice (some ⟨g, 0, none⟩) q cap) ((((((((w.setCell ⟨g, k * 8, none⟩ (.bool y.u)).setCell ⟨g, k * 8 + 1, none⟩ (.int .i64 y.n)).setCell ⟨g, k * 8 + 2, none⟩ (.int .i64 y.t)).setCell ⟨g, k * 8 + 3, none⟩ (.int .i64 y.m)).setCell ⟨g, k * 8 + 4, none⟩ (.int .i64 y.p)).setCell ⟨g, k * 8 + 5, none⟩ (.slice none 0 0)).setCell ⟨g, k * 8 + 6, none⟩ (.int .i64 y.h)).setCell ⟨g, k * 8 + 7, none⟩ (.bool y.c)) := by
  have p0 := h.put1 (k := k) (j := 0) (u := .bool y.u) hk hq (by omega) ⟨y.u, (nd S k).n, (nd S k).t, (nd S k).m, (nd S k).p, (nd S k).ks, (nd S k).h, (nd S k).c⟩ (fun v j' hj' => by
    skip
    match j', hj' with
    | 0, _ | 1, _ | 2, _ | 3, _ | 4, _ | 5, _ | 6, _ | 7, _ => rfl) (by rfl)
  have p1 := p0.put1 (k := k) (j := 1) (u := .int .i64 y.n) hk (by simp only [List.length_set]; exact hq) (by omega) ⟨y.u, y.n, (nd S k).t, (nd S k).m, (nd S k).p, (nd S k).ks, (nd S k).h, (nd S k).c⟩ (fun v j' hj' => by
    rw [nd_set _ k k _ (by first | omega | (simp only [List.length_set]; omega)), if_pos rfl];
    match j', hj' with
    | 0, _ | 1, _ | 2, _ | 3, _ | 4, _ | 5, _ | 6, _ | 7, _ => rfl) (by rw [nd_set _ k k _ (by first | omega | (simp only [List.length_set]; omega)), if_pos rfl])
  have p2 := p1.put1 (k := k) (j := 2) (u := .int .i64 y.t) hk (by simp only [List.length_set]; exact hq) (by omega) ⟨y.u, y.n, y.t, (nd S k).m, (nd S k).p, (nd S k).ks, (nd S k).h, (nd S k).c⟩ (fun v j' hj' => by
    rw [nd_set _ k k _ (by first | omega | (simp only [List.length_set]; omega)), if_pos rfl];
    match j', hj' with
    | 0, _ | 1, _ | 2, _ | 3, _ | 4, _ | 5, _ | 6, _ | 7, _ => rfl) (by rw [nd_set _ k k _ (by first | omega | (simp only [List.length_set]; omega)), if_pos rfl])
  have p3 := p2.put1 (k := k) (j := 3) (u := .int .i64 y.m) hk (by simp only [List.length_set]; exact hq) (by omega) ⟨y.u, y.n, y.t, y.m, (nd S k).p, (nd S k).ks, (nd S k).h, (nd S k).c⟩ (fun v j' hj' => by
    rw [nd_set _ k k _ (by first | omega | (simp only [List.length_set]; omega)), if_pos rfl];
    match j', hj' with
    | 0, _ | 1, _ | 2, _ | 3, _ | 4, _ | 5, _ | 6, _ | 7, _ => rfl) (by rw [nd_set _ k k _ (by first | omega | (simp only [List.length_set]; omega)), if_pos rfl])
  have p4 := p3.put1 (k := k) (j := 4) (u := .int .i64 y.p) hk (by simp only [List.length_set]; exact hq) (by omega) ⟨y.u, y.n, y.t, y.m, y.p, (nd S k).ks, (nd S k).h, (nd S k).c⟩ (fun v j' hj' => by
    rw [nd_set _ k k _ (by first | omega | (simp only [List.length_set]; omega)), if_pos rfl];
    match j', hj' with
    | 0, _ | 1, _ | 2, _ | 3, _ | 4, _ | 5, _ | 6, _ | 7, _ => rfl) (by rw [nd_set _ k k _ (by first | omega | (simp only [List.length_set]; omega)), if_pos rfl])
  rw [List.set_set, List.set_set, List.set_set, List.set_set] at p4
  have e4 : ∀ i, i < q → nd (S.set k ⟨y.u, y.n, y.t, y.m, y.p, (nd S k).ks, (nd S k).h, (nd S k).c⟩) i = if i = k then ⟨y.u, y.n, y.t, y.m, y.p, (nd S k).ks, (nd S k).h, (nd S k).c⟩ else nd S i := fun i hi => nd_set S k i _ (by omega)
  have p5 := p4.put (S' := S.set k ⟨y.u, y.n, y.t, y.m, y.p, y.ks, (nd S k).h, (nd S k).c⟩) (K' := fun i => if i = k then .slice none 0 0 else K i) (k := k) (j := 5) (u := .slice none 0 0) (by omega) (fun i hi j' hj' => by
    rw [e4 i hi, nd_set S k i _ (by omega)]
    by_cases e : i = k
    · simp only [e, if_true, true_and]
      match j', hj' with
      | 0, _ | 1, _ | 2, _ | 3, _ | 4, _ | 5, _ | 6, _ | 7, _ => rfl
    · simp only [if_neg e, if_neg (fun hh : i = k ∧ j' = 5 => e hh.1)]) (fun i hi => by
    rw [nd_set S k i _ (by omega)]
    by_cases e : i = k
    · simp only [e, if_true, hy]
      exact World.ownsRow_nil _ _ _ _
    · simp only [if_neg e]
      have := p4.2 i hi
      rw [e4 i hi, if_neg e] at this
      exact this)
  have p6 := p5.put1 (k := k) (j := 6) (u := .int .i64 y.h) hk (by simp only [List.length_set]; exact hq) (by omega) ⟨y.u, y.n, y.t, y.m, y.p, y.ks, y.h, (nd S k).c⟩ (fun v j' hj' => by
    rw [nd_set _ k k _ (by first | omega | (simp only [List.length_set]; omega)), if_pos rfl]
    match j', hj' with
    | 0, _ | 1, _ | 2, _ | 3, _ | 4, _ | 5, _ | 6, _ | 7, _ => rfl) (by rw [nd_set _ k k _ (by first | omega | (simp only [List.length_set]; omega)), if_pos rfl])
  have p7 := p6.put1 (k := k) (j := 7) (u := .bool y.c) hk (by simp only [List.length_set]; exact hq) (by omega) ⟨y.u, y.n, y.t, y.m, y.p, y.ks, y.h, y.c⟩ (fun v j' hj' => by
    rw [nd_set _ k k _ (by first | omega | (simp only [List.length_set]; omega)), if_pos rfl]
    match j', hj' with
    | 0, _ | 1, _ | 2, _ | 3, _ | 4, _ | 5, _ | 6, _ | 7, _ => rfl) (by rw [nd_set _ k k _ (by first | omega | (simp only [List.length_set]; omega)), if_pos rfl])
  rw [List.set_set, List.set_set] at p7
  exact p7

theorem own_cells {B b o : Nat} {S : List Nd} {q : Nat} {K : Nat → Value} {g cap : Nat} {w2 : World} {v : Value} (h : OwnK B S q K (.slice (some ⟨g, 0, none⟩) q cap) (w2.setCell ⟨b, o, none⟩ v)) (hb : b ≠ g) {k : Nat} (hk : k < q) :
    (w2.cell? ⟨g, k * 8, none⟩ = some (.bool (nd S k).u) ∧ w2.cell? ⟨g, k * 8 + 1, none⟩ = some (.int .i64 (nd S k).n) ∧ w2.cell? ⟨g, k * 8 + 2, none⟩ = some (.int .i64 (nd S k).t) ∧ w2.cell? ⟨g, k * 8 + 3, none⟩ = some (.int .i64 (nd S k).m) ∧ w2.cell? ⟨g, k * 8 + 4, none⟩ = some (.int .i64 (nd S k).p) ∧ w2.cell? ⟨g, k * 8 + 5, none⟩ = some (K k) ∧ w2.cell? ⟨g, k * 8 + 6, none⟩ = some (.int .i64 (nd S k).h) ∧ w2.cell? ⟨g, k * 8 + 7, none⟩ = some (.bool (nd S k).c)) ∧ ∀ j, w2.frozen? ⟨g, j, none⟩ = false := by
  have hc : ∀ j, w2.cell? ⟨g, j, none⟩ = (w2.setCell ⟨b, o, none⟩ v).cell? ⟨g, j, none⟩ := fun j => (World.cell?_of_block (Below.heap_setCell _ _ _ _ (fun e => hb e.symm))).symm
  refine ⟨⟨(hc _).trans (h.cellAt (i := k) (j := 0) hk (by omega)), (hc _).trans (h.cellAt (i := k) (j := 1) hk (by omega)), (hc _).trans (h.cellAt (i := k) (j := 2) hk (by omega)), (hc _).trans (h.cellAt (i := k) (j := 3) hk (by omega)), (hc _).trans (h.cellAt (i := k) (j := 4) hk (by omega)), (hc _).trans (h.cellAt (i := k) (j := 5) hk (by omega)), (hc _).trans (h.cellAt (i := k) (j := 6) hk (by omega)), (hc _).trans (h.cellAt (i := k) (j := 7) hk (by omega))⟩, fun j => ?_⟩
  have := h.frozenAt j
  rw [World.frozen?_setCell] at this
  exact this

set_option maxHeartbeats 4000000 in
theorem rFreed_any (a : Option Addr) (c : Nat) (S T : List Nd) (k : Nat) (P u E : Int) (w : World) (hP : P = (k : Int)) (hC : RChk a c S) (hS : NdsAt w a S) (hN : S.length ≤ 24) (hK : ∀ i, i < S.length → (nd S i).ks.length ≤ 1000) (hk : k < S.length) (hF : tcheckE S [(P, u)] = 0)
    (hq1 : (∀ i, i < S.length → hangB S k i = false) → T = S.set k ⟨false, u, 0, 0, -1, [], -1, false⟩ ∧ E = 0) (hq2 : ∀ i, i < S.length → hangB S k i = true → T = [] ∧ E = 6) :
    Calls Try.prog 15 #[.agg #[.slice a S.length c], .agg #[.int .i64 P, .int .i64 u]] w fun e w' => ∃ a' c', e = .returned (.tuple #[.agg #[.slice a' T.length c'], .int .i64 E]) ∧ Below w.heap.size w w' ∧ NdsAt w' a' T := by
  have df := fun (W : World) (ha : Option Addr) (hW : NdsAt W a S) (hH : HandsAt W ha [(P, u)]) => rFirst_any a c S ha 1 [(P, u)] W (by omega) hC hW (by simp) hH
  rw [hF] at df
  have DF : Hid _ := df
  have DO : Hid (∀ W, NdsAt W a S → Calls _ _ _ _ _) := fun W hW => rOwn_any a c S W (by omega) (fun i hi => by have := hK i hi; omega) hW
  have HS : Hid (NdsAt w a S) := hS
  have HP : Hid (P = (k : Int)) := hP
  have Q1 : Hid _ := hq1
  have Q2 : Hid _ := hq2
  clear hS hC df hF hq1 hq2 hK hP
  generalize hn : S.length = n at *
  have HN : Hid (S.length = n) := hn
  clear hn
  go_enter Try.func15, Try.ntmps15
  go_wp2_with (go_at_call 47; refine (DF.out _ _ (HS.out.below ((three_below _ _ _ _).alloc (by simp; omega) _)) (hands_one _ _ _ _ (by go_simp) (by go_simp))).mono ?_; rintro e w1 ⟨rfl, hb1⟩; simp only [World.size_alloc] at hb1; obtain ⟨l0, l1, l2, l3, z0, z1, hsz, hB1⟩ := freed_low hb1)
  have HB1 : Hid _ := hB1
  clear hb1 hB1 DF
  go_loopg [20] n (fun gg s20 wr => ∃ q : Nat, q ≤ n ∧ n - q ≤ gg ∧ s20 = .int .i64 q ∧ w.heap.size + 4 ≤ wr.heap.size ∧ wr.cell? ⟨w.heap.size, 0, none⟩ = some (.slice a n c) ∧ wr.cell? ⟨w.heap.size + 1, 0, none⟩ = some (.int .i64 P) ∧ wr.cell? ⟨w.heap.size + 1, 1, none⟩ = some (.int .i64 u) ∧ wr.cell? ⟨w.heap.size + 1 + 1, 0, none⟩ = some (.slice none 0 0) ∧ wr.frozen? ⟨w.heap.size, 0, none⟩ = false ∧ wr.frozen? ⟨w.heap.size + 1 + 1, 0, none⟩ = false ∧ Hid (Below w.heap.size w wr) ∧ Hid (∀ i, i < q → hangB S k i = false))
  case atStart => exact ⟨0, by omega, by omega, rfl, hsz, l0, l1, l2, l3, z0, z1, HB1, (show Hid _ from fun i hi => absurd hi (Nat.not_lt_zero _))⟩
  case round =>
    clear HB1 hsz l0 l1 l2 l3 z0 z1
    obtain ⟨q, hq, hgg, rfl, hsz, l0, l1, l2, l3, z0, z1, HB, A⟩ := hrel
    by_cases hqn : q < n
    · have hqn2 : (q : Int) < (n : Int) := by omega
      obtain ⟨nb, no, rfl, c0, c1, c2, c3, c4, ⟨ka, kc, c5, _⟩, c6, c7⟩ := (HS.out.below HB.out) q (by rw [HN.out]; exact hqn)
      have DR : Hid (∀ (v : Value) W, Calls _ _ _ W _) := fun v W => rRightUnder_any (nd S q) v W
      have hru : (if (nd S q).h = -1 then (nd S q).p else (nd S q).h) = rightUnder (nd S q) := rfl
      rw [hru] at DR
      have NX : Hid (hangB S k q = false → ∀ i, i < q + 1 → hangB S k i = false) := fun h i hi => by
        by_cases e : i = q
        · rw [e]; exact h
        · exact A.out i (by omega)
      have HG : Hid (hangB S k q = ((decide (q = k) && decide (rightUnder (nd S q) ≠ -1)) || decide (rightUnder (nd S q) = (k : Int)))) := (rfl : hangB S k q = _)
      have QB : Hid _ := Q2.out q hqn
      clear hru A Q2
      generalize rightUnder (nd S q) = r at *
      generalize (nd S q).ks.length = L at *
      generalize nd S q = x at *
      obtain ⟨xu, xn, xt, xm, xp, xks, xh, xc⟩ := x
      dsimp only at c0 c1 c2 c3 c4 c5 c6 c7 DR
      by_cases hqk : q = k
      · have HQK : Hid (q = k) := hqk
        clear hqk
        by_cases hr : r = -1
        · have NX2 : Hid _ := NX.out (by rw [HG.out, hr]; first | (simp; done) | (simp; omega))
          subst hr
          clear NX HG QB
          go_wp2_with fail
          obtain ⟨Q, hQ⟩ : ∃ Q : Int, (q : Int) = Q := ⟨_, rfl⟩
          have HQ : Hid ((q : Int) = Q) := hQ
          have bQ0 : (0 : Int) ≤ Q := by omega
          have bQ1 : Q ≤ 1000 := by omega
          rw [hQ]
          have e1 : Q = P := by rw [← hQ, HP.out, HQK.out]
          clear hQ
          subst e1
          have e3 : ((-1 : Int) == Q) = false := by rw [← HQ.out]; first | (simp; done) | (simp; omega)
          have e3' : decide ((-1 : Int) = Q) = false := decide_eq_false (by omega)
          obtain ⟨V, hV⟩ : ∃ V, wr.alloc (.cells #[.bool xu, .int .i64 xn, .int .i64 xt, .int .i64 xm, .int .i64 xp, .slice ka L kc, .int .i64 xh, .bool xc] 35) = V := ⟨_, rfl⟩
          have HV : Hid (Below wr.heap.size wr V) := by rw [← hV]; exact (Below.refl _ _).alloc (Nat.le_refl _) _
          have n0 : V.cell? ⟨wr.heap.size, 0, none⟩ = some (.bool xu) := by rw [← hV]; exact alloc_cell _ _ _ 0 rfl
          have n1 : V.cell? ⟨wr.heap.size, 1, none⟩ = some (.int .i64 xn) := by rw [← hV]; exact alloc_cell _ _ _ 1 rfl
          have n2 : V.cell? ⟨wr.heap.size, 2, none⟩ = some (.int .i64 xt) := by rw [← hV]; exact alloc_cell _ _ _ 2 rfl
          have n3 : V.cell? ⟨wr.heap.size, 3, none⟩ = some (.int .i64 xm) := by rw [← hV]; exact alloc_cell _ _ _ 3 rfl
          have n4 : V.cell? ⟨wr.heap.size, 4, none⟩ = some (.int .i64 xp) := by rw [← hV]; exact alloc_cell _ _ _ 4 rfl
          have n5 : V.cell? ⟨wr.heap.size, 5, none⟩ = some (.slice ka L kc) := by rw [← hV]; exact alloc_cell _ _ _ 5 rfl
          have n6 : V.cell? ⟨wr.heap.size, 6, none⟩ = some (.int .i64 xh) := by rw [← hV]; exact alloc_cell _ _ _ 6 rfl
          have n7 : V.cell? ⟨wr.heap.size, 7, none⟩ = some (.bool xc) := by rw [← hV]; exact alloc_cell _ _ _ 7 rfl
          have nh : V.cell? ⟨w.heap.size + 1, 0, none⟩ = some (.int .i64 Q) := (HV.out.cell (by show w.heap.size + 1 < _; omega)).trans l1
          have nhl : w.heap.size + 1 < V.heap.size := World.block_lt_of_cell? _ _ nh
          rw [hV]
          have HV2 : Hid (wr.heap.size + 1 = V.heap.size) := (by rw [← hV]; simp : wr.heap.size + 1 = V.heap.size)
          clear hV c0 c1 c2 c3 c4 c5 c6 c7
          go_region_with (first | (go_at_call 48; refine Calls.mono (DR.out (.slice ka L kc) _) ?_; rintro e w4 ⟨rfl, hbx⟩; have HBm : Hid (Below V.heap.size V w4) := (Below.refl V.heap.size V).drew.trans hbx; obtain ⟨m0, m1, m2, m3, m4, m5, m6, m7⟩ := box8_keep HBm.out n0 n1 n2 n3 n4 n5 n6 n7; have mh : w4.cell? ⟨w.heap.size + 1, 0, none⟩ = some (.int .i64 Q) := (HBm.out.cell (by exact nhl)).trans nh; clear hbx) | (go_at_call 48; refine Calls.mono (DR.out (.slice ka L kc) _) ?_; rintro e w5 ⟨rfl, hbx⟩; have HBo : Hid (Below V.heap.size V w5) := HBm.out.trans (hbx.mono HBm.out.size); obtain ⟨o0, o1, o2, o3, o4, o5, o6, o7⟩ := box8_keep HBo.out n0 n1 n2 n3 n4 n5 n6 n7; have oh : w5.cell? ⟨w.heap.size + 1, 0, none⟩ = some (.int .i64 Q) := (HBo.out.cell (by exact nhl)).trans nh; clear hbx))
          all_goals (
            go_wp2_with fail
            go_roundg (n - (q + 1))
            case measure => omega
            case rel =>
              have hbb : Below wr.heap.size wr w5 := HV.out.trans (HBo.out.mono HV.out.size)
              have hs4 := hbb.size
              exact ⟨q + 1, by omega, by omega, by rw [← HQ.out]; go_num, by omega, (hbb.cell (by show w.heap.size < _; omega)).trans l0, (hbb.cell (by show w.heap.size + 1 < _; omega)).trans l1, (hbb.cell (by show w.heap.size + 1 < _; omega)).trans l2, (hbb.cell (by show w.heap.size + 1 + 1 < _; omega)).trans l3, (hbb.frozen (by show w.heap.size < _; omega)).trans z0, (hbb.frozen (by show w.heap.size + 1 + 1 < _; omega)).trans z1, HB.out.trans (hbb.mono HB.out.size), NX2⟩
          )
        · obtain ⟨rfl, rfl⟩ := QB.out (by rw [HG.out]; simp [HQK.out, hr])
          have e2 : (r != -1) = true := by simpa using hr
          have e2' : decide (r = -1) = false := decide_eq_false hr
          have e2'' : (r == -1) = false := by simpa using hr
          clear NX HG QB
          go_wp2_with fail
          obtain ⟨Q, hQ⟩ : ∃ Q : Int, (q : Int) = Q := ⟨_, rfl⟩
          have HQ : Hid ((q : Int) = Q) := hQ
          have bQ0 : (0 : Int) ≤ Q := by omega
          have bQ1 : Q ≤ 1000 := by omega
          rw [hQ]
          have e1 : Q = P := by rw [← hQ, HP.out, HQK.out]
          clear hQ
          subst e1
          obtain ⟨V, hV⟩ : ∃ V, wr.alloc (.cells #[.bool xu, .int .i64 xn, .int .i64 xt, .int .i64 xm, .int .i64 xp, .slice ka L kc, .int .i64 xh, .bool xc] 35) = V := ⟨_, rfl⟩
          have HV : Hid (Below wr.heap.size wr V) := by rw [← hV]; exact (Below.refl _ _).alloc (Nat.le_refl _) _
          have n0 : V.cell? ⟨wr.heap.size, 0, none⟩ = some (.bool xu) := by rw [← hV]; exact alloc_cell _ _ _ 0 rfl
          have n1 : V.cell? ⟨wr.heap.size, 1, none⟩ = some (.int .i64 xn) := by rw [← hV]; exact alloc_cell _ _ _ 1 rfl
          have n2 : V.cell? ⟨wr.heap.size, 2, none⟩ = some (.int .i64 xt) := by rw [← hV]; exact alloc_cell _ _ _ 2 rfl
          have n3 : V.cell? ⟨wr.heap.size, 3, none⟩ = some (.int .i64 xm) := by rw [← hV]; exact alloc_cell _ _ _ 3 rfl
          have n4 : V.cell? ⟨wr.heap.size, 4, none⟩ = some (.int .i64 xp) := by rw [← hV]; exact alloc_cell _ _ _ 4 rfl
          have n5 : V.cell? ⟨wr.heap.size, 5, none⟩ = some (.slice ka L kc) := by rw [← hV]; exact alloc_cell _ _ _ 5 rfl
          have n6 : V.cell? ⟨wr.heap.size, 6, none⟩ = some (.int .i64 xh) := by rw [← hV]; exact alloc_cell _ _ _ 6 rfl
          have n7 : V.cell? ⟨wr.heap.size, 7, none⟩ = some (.bool xc) := by rw [← hV]; exact alloc_cell _ _ _ 7 rfl
          have nh : V.cell? ⟨w.heap.size + 1, 0, none⟩ = some (.int .i64 Q) := (HV.out.cell (by show w.heap.size + 1 < _; omega)).trans l1
          have nhl : w.heap.size + 1 < V.heap.size := World.block_lt_of_cell? _ _ nh
          rw [hV]
          have HV2 : Hid (wr.heap.size + 1 = V.heap.size) := (by rw [← hV]; simp : wr.heap.size + 1 = V.heap.size)
          clear hV c0 c1 c2 c3 c4 c5 c6 c7
          first | (go_region_with (first | (go_at_call 48; refine Calls.mono (DR.out (.slice ka L kc) _) ?_; rintro e w4 ⟨rfl, hbx⟩; have HBm : Hid (Below V.heap.size V w4) := (Below.refl V.heap.size V).drew.trans hbx; obtain ⟨m0, m1, m2, m3, m4, m5, m6, m7⟩ := box8_keep HBm.out n0 n1 n2 n3 n4 n5 n6 n7; have mh : w4.cell? ⟨w.heap.size + 1, 0, none⟩ = some (.int .i64 Q) := (HBm.out.cell (by exact nhl)).trans nh; clear hbx))) | fail
          all_goals (
            have hbb : Below wr.heap.size wr w4 := HV.out.trans (HBm.out.mono HV.out.size)
            have x3 : w4.cell? ⟨w.heap.size + 1 + 1, 0, none⟩ = some (.slice none 0 0) := (hbb.cell (by show w.heap.size + 1 + 1 < _; omega)).trans l3
            have xz : w4.frozen? ⟨w.heap.size + 1 + 1, 0, none⟩ = false := (hbb.frozen (by show w.heap.size + 1 + 1 < _; omega)).trans z1
            have HBB : Hid (Below w.heap.size w w4) := HB.out.trans (hbb.mono HB.out.size)
            clear hbb
            go_wp2_with fail
            refine bodyPost_ret (v := .tuple #[.agg #[.slice none 0 0], .int .i64 6]) (by simp [results, Try.results15, go_sem, x3]) rfl ⟨none, 0, rfl, ?_, fun i hi => absurd hi (Nat.not_lt_zero _)⟩
            first | exact HBB.out.setCell (by simp; omega) _ | exact (HBB.out.setCell (by simp; omega) _).drew
          )
      · by_cases hr : r = P
        · obtain ⟨rfl, rfl⟩ := QB.out (by rw [HG.out, hr, HP.out]; simp)
          subst hr
          clear NX HG QB
          go_wp2_with fail
          obtain ⟨Q, hQ⟩ : ∃ Q : Int, (q : Int) = Q := ⟨_, rfl⟩
          have e1 : (Q == r) = false := by rw [← hQ, HP.out]; simp; omega
          have e1' : decide (Q = r) = false := by rw [← hQ, HP.out]; simp; omega
          have HQ : Hid ((q : Int) = Q) := hQ
          have bQ0 : (0 : Int) ≤ Q := by omega
          have bQ1 : Q ≤ 1000 := by omega
          rw [hQ]
          clear hQ
          obtain ⟨V, hV⟩ : ∃ V, wr.alloc (.cells #[.bool xu, .int .i64 xn, .int .i64 xt, .int .i64 xm, .int .i64 xp, .slice ka L kc, .int .i64 xh, .bool xc] 35) = V := ⟨_, rfl⟩
          have HV : Hid (Below wr.heap.size wr V) := by rw [← hV]; exact (Below.refl _ _).alloc (Nat.le_refl _) _
          have n0 : V.cell? ⟨wr.heap.size, 0, none⟩ = some (.bool xu) := by rw [← hV]; exact alloc_cell _ _ _ 0 rfl
          have n1 : V.cell? ⟨wr.heap.size, 1, none⟩ = some (.int .i64 xn) := by rw [← hV]; exact alloc_cell _ _ _ 1 rfl
          have n2 : V.cell? ⟨wr.heap.size, 2, none⟩ = some (.int .i64 xt) := by rw [← hV]; exact alloc_cell _ _ _ 2 rfl
          have n3 : V.cell? ⟨wr.heap.size, 3, none⟩ = some (.int .i64 xm) := by rw [← hV]; exact alloc_cell _ _ _ 3 rfl
          have n4 : V.cell? ⟨wr.heap.size, 4, none⟩ = some (.int .i64 xp) := by rw [← hV]; exact alloc_cell _ _ _ 4 rfl
          have n5 : V.cell? ⟨wr.heap.size, 5, none⟩ = some (.slice ka L kc) := by rw [← hV]; exact alloc_cell _ _ _ 5 rfl
          have n6 : V.cell? ⟨wr.heap.size, 6, none⟩ = some (.int .i64 xh) := by rw [← hV]; exact alloc_cell _ _ _ 6 rfl
          have n7 : V.cell? ⟨wr.heap.size, 7, none⟩ = some (.bool xc) := by rw [← hV]; exact alloc_cell _ _ _ 7 rfl
          have nh : V.cell? ⟨w.heap.size + 1, 0, none⟩ = some (.int .i64 r) := (HV.out.cell (by show w.heap.size + 1 < _; omega)).trans l1
          have nhl : w.heap.size + 1 < V.heap.size := World.block_lt_of_cell? _ _ nh
          rw [hV]
          have HV2 : Hid (wr.heap.size + 1 = V.heap.size) := (by rw [← hV]; simp : wr.heap.size + 1 = V.heap.size)
          clear hV c0 c1 c2 c3 c4 c5 c6 c7
          go_region_with (first | (go_at_call 48; refine Calls.mono (DR.out (.slice ka L kc) _) ?_; rintro e w4 ⟨rfl, hbx⟩; have HBm : Hid (Below V.heap.size V w4) := (Below.refl V.heap.size V).drew.trans hbx; obtain ⟨m0, m1, m2, m3, m4, m5, m6, m7⟩ := box8_keep HBm.out n0 n1 n2 n3 n4 n5 n6 n7; have mh : w4.cell? ⟨w.heap.size + 1, 0, none⟩ = some (.int .i64 r) := (HBm.out.cell (by exact nhl)).trans nh; clear hbx))
          all_goals (
            have hbb : Below wr.heap.size wr w4 := HV.out.trans (HBm.out.mono HV.out.size)
            have x3 : w4.cell? ⟨w.heap.size + 1 + 1, 0, none⟩ = some (.slice none 0 0) := (hbb.cell (by show w.heap.size + 1 + 1 < _; omega)).trans l3
            have xz : w4.frozen? ⟨w.heap.size + 1 + 1, 0, none⟩ = false := (hbb.frozen (by show w.heap.size + 1 + 1 < _; omega)).trans z1
            have HBB : Hid (Below w.heap.size w w4) := HB.out.trans (hbb.mono HB.out.size)
            clear hbb
            go_wp2_with fail
            refine bodyPost_ret (v := .tuple #[.agg #[.slice none 0 0], .int .i64 6]) (by simp [results, Try.results15, go_sem, x3]) rfl ⟨none, 0, rfl, ?_, fun i hi => absurd hi (Nat.not_lt_zero _)⟩
            first | exact HBB.out.setCell (by simp; omega) _ | exact (HBB.out.setCell (by simp; omega) _).drew
          )
        · have e2 : (r == P) = false := by simpa using hr
          have e2' : decide (r = P) = false := decide_eq_false hr
          have NX2 : Hid _ := NX.out (by rw [HG.out, ← HP.out]; simp [hqk, hr])
          clear NX HG QB
          go_wp2_with fail
          obtain ⟨Q, hQ⟩ : ∃ Q : Int, (q : Int) = Q := ⟨_, rfl⟩
          have e1 : (Q == P) = false := by rw [← hQ, HP.out]; simp; omega
          have e1' : decide (Q = P) = false := by rw [← hQ, HP.out]; simp; omega
          have HQ : Hid ((q : Int) = Q) := hQ
          have bQ0 : (0 : Int) ≤ Q := by omega
          have bQ1 : Q ≤ 1000 := by omega
          rw [hQ]
          clear hQ
          obtain ⟨V, hV⟩ : ∃ V, wr.alloc (.cells #[.bool xu, .int .i64 xn, .int .i64 xt, .int .i64 xm, .int .i64 xp, .slice ka L kc, .int .i64 xh, .bool xc] 35) = V := ⟨_, rfl⟩
          have HV : Hid (Below wr.heap.size wr V) := by rw [← hV]; exact (Below.refl _ _).alloc (Nat.le_refl _) _
          have n0 : V.cell? ⟨wr.heap.size, 0, none⟩ = some (.bool xu) := by rw [← hV]; exact alloc_cell _ _ _ 0 rfl
          have n1 : V.cell? ⟨wr.heap.size, 1, none⟩ = some (.int .i64 xn) := by rw [← hV]; exact alloc_cell _ _ _ 1 rfl
          have n2 : V.cell? ⟨wr.heap.size, 2, none⟩ = some (.int .i64 xt) := by rw [← hV]; exact alloc_cell _ _ _ 2 rfl
          have n3 : V.cell? ⟨wr.heap.size, 3, none⟩ = some (.int .i64 xm) := by rw [← hV]; exact alloc_cell _ _ _ 3 rfl
          have n4 : V.cell? ⟨wr.heap.size, 4, none⟩ = some (.int .i64 xp) := by rw [← hV]; exact alloc_cell _ _ _ 4 rfl
          have n5 : V.cell? ⟨wr.heap.size, 5, none⟩ = some (.slice ka L kc) := by rw [← hV]; exact alloc_cell _ _ _ 5 rfl
          have n6 : V.cell? ⟨wr.heap.size, 6, none⟩ = some (.int .i64 xh) := by rw [← hV]; exact alloc_cell _ _ _ 6 rfl
          have n7 : V.cell? ⟨wr.heap.size, 7, none⟩ = some (.bool xc) := by rw [← hV]; exact alloc_cell _ _ _ 7 rfl
          have nh : V.cell? ⟨w.heap.size + 1, 0, none⟩ = some (.int .i64 P) := (HV.out.cell (by show w.heap.size + 1 < _; omega)).trans l1
          have nhl : w.heap.size + 1 < V.heap.size := World.block_lt_of_cell? _ _ nh
          rw [hV]
          have HV2 : Hid (wr.heap.size + 1 = V.heap.size) := (by rw [← hV]; simp : wr.heap.size + 1 = V.heap.size)
          clear hV c0 c1 c2 c3 c4 c5 c6 c7
          go_region_with (first | (go_at_call 48; refine Calls.mono (DR.out (.slice ka L kc) _) ?_; rintro e w4 ⟨rfl, hbx⟩; have HBm : Hid (Below V.heap.size V w4) := (Below.refl V.heap.size V).drew.trans hbx; obtain ⟨m0, m1, m2, m3, m4, m5, m6, m7⟩ := box8_keep HBm.out n0 n1 n2 n3 n4 n5 n6 n7; have mh : w4.cell? ⟨w.heap.size + 1, 0, none⟩ = some (.int .i64 P) := (HBm.out.cell (by exact nhl)).trans nh; clear hbx))
          all_goals (
            go_wp2_with fail
            go_roundg (n - (q + 1))
            case measure => omega
            case rel =>
              have hbb : Below wr.heap.size wr w4 := HV.out.trans (HBm.out.mono HV.out.size)
              have hs4 := hbb.size
              exact ⟨q + 1, by omega, by omega, by rw [← HQ.out]; go_num, by omega, (hbb.cell (by show w.heap.size < _; omega)).trans l0, (hbb.cell (by show w.heap.size + 1 < _; omega)).trans l1, (hbb.cell (by show w.heap.size + 1 < _; omega)).trans l2, (hbb.cell (by show w.heap.size + 1 + 1 < _; omega)).trans l3, (hbb.frozen (by show w.heap.size < _; omega)).trans z0, (hbb.frozen (by show w.heap.size + 1 + 1 < _; omega)).trans z1, HB.out.trans (hbb.mono HB.out.size), NX2⟩
          )
    · have hqe : q = n := by omega
      subst hqe
      obtain ⟨hT, hE⟩ := Q1.out A.out
      have HT : Hid _ := hT
      subst hE
      clear Q1 Q2 A hT
      have hPk := HP.out
      subst hPk
      have hk2 : (k : Int) < (q : Int) := by omega
      go_wp2_with (go_at_call 9; refine (DO.out _ (HS.out.below HB.out)).mono ?_; rintro e w2 ⟨v, K, rfl, hb2, hown⟩; obtain ⟨g, cap, rfl, hg, hg2, hcap, hcm, hO, hB3, ⟨m0, y0⟩, m1, m2, m3, y3⟩ := own_afterF (by omega) hsz HB.out l0 l1 l2 l3 z0 z1 hb2 hown; have HO : Hid _ := hO; have HB3 : Hid _ := hB3; have hbg : w.heap.size ≠ g := (by omega); have hbg1 : w.heap.size + 1 ≠ g := (by omega); have hbg2 : w.heap.size + 1 + 1 ≠ g := (by omega); obtain ⟨⟨r0, r1, r2, r3, r4, r5, r6, r7⟩, rf⟩ := own_cells hO hbg hk; have f0 := rf (k * 8); have f1 := rf (k * 8 + 1); have f2 := rf (k * 8 + 2); have f3 := rf (k * 8 + 3); have f4 := rf (k * 8 + 4); have f5 := rf (k * 8 + 5); have f6 := rf (k * 8 + 6); have f7 := rf (k * 8 + 7); clear hown hb2 hO hB3 rf l0 l1 l2 l3 z0 z1)
      have P8 : Hid (OwnK (w.heap.size + 4) (S.set k ⟨false, u, 0, 0, -1, [], -1, false⟩) q (fun i => if i = k then .slice none 0 0 else K i) (.slice (some ⟨g, 0, none⟩) q cap) (((((((((w2.setCell ⟨w.heap.size, 0, none⟩ (.slice (some ⟨g, 0, none⟩) q cap)).setCell ⟨g, k * 8, none⟩ (.bool false)).setCell ⟨g, k * 8 + 1, none⟩ (.int .i64 u)).setCell ⟨g, k * 8 + 2, none⟩ (.int .i64 0)).setCell ⟨g, k * 8 + 3, none⟩ (.int .i64 0)).setCell ⟨g, k * 8 + 4, none⟩ (.int .i64 (-1))).setCell ⟨g, k * 8 + 5, none⟩ (.slice none 0 0)).setCell ⟨g, k * 8 + 6, none⟩ (.int .i64 (-1))).setCell ⟨g, k * 8 + 7, none⟩ (.bool false))) := OwnK.putN HO.out hk HN.out ⟨false, u, 0, 0, -1, [], -1, false⟩ rfl
      have rc0 : (((((((((w2.setCell ⟨w.heap.size, 0, none⟩ (.slice (some ⟨g, 0, none⟩) q cap)).setCell ⟨g, k * 8, none⟩ (.bool false)).setCell ⟨g, k * 8 + 1, none⟩ (.int .i64 u)).setCell ⟨g, k * 8 + 2, none⟩ (.int .i64 0)).setCell ⟨g, k * 8 + 3, none⟩ (.int .i64 0)).setCell ⟨g, k * 8 + 4, none⟩ (.int .i64 (-1))).setCell ⟨g, k * 8 + 5, none⟩ (.slice none 0 0)).setCell ⟨g, k * 8 + 6, none⟩ (.int .i64 (-1))).setCell ⟨g, k * 8 + 7, none⟩ (.bool false)).cell? ⟨w.heap.size + 1 + 1, 0, none⟩ = some (.slice none 0 0) := cell_else hbg2 (cell_else hbg2 (cell_else hbg2 (cell_else hbg2 (cell_else hbg2 (cell_else hbg2 (cell_else hbg2 (cell_else hbg2 ((World.cell?_of_block (Below.heap_setCell _ _ _ _ (by simp; omega))).trans m3))))))))
      have HB4 : Hid (Below w.heap.size w (((((((((w2.setCell ⟨w.heap.size, 0, none⟩ (.slice (some ⟨g, 0, none⟩) q cap)).setCell ⟨g, k * 8, none⟩ (.bool false)).setCell ⟨g, k * 8 + 1, none⟩ (.int .i64 u)).setCell ⟨g, k * 8 + 2, none⟩ (.int .i64 0)).setCell ⟨g, k * 8 + 3, none⟩ (.int .i64 0)).setCell ⟨g, k * 8 + 4, none⟩ (.int .i64 (-1))).setCell ⟨g, k * 8 + 5, none⟩ (.slice none 0 0)).setCell ⟨g, k * 8 + 6, none⟩ (.int .i64 (-1))).setCell ⟨g, k * 8 + 7, none⟩ (.bool false))) := ((((((((HB3.out.setCell (by simp; omega) _).setCell (by simp; omega) _).setCell (by simp; omega) _).setCell (by simp; omega) _).setCell (by simp; omega) _).setCell (by simp; omega) _).setCell (by simp; omega) _).setCell (by simp; omega) _)
      obtain ⟨W4, hW4⟩ : ∃ W4, (((((((((w2.setCell ⟨w.heap.size, 0, none⟩ (.slice (some ⟨g, 0, none⟩) q cap)).setCell ⟨g, k * 8, none⟩ (.bool false)).setCell ⟨g, k * 8 + 1, none⟩ (.int .i64 u)).setCell ⟨g, k * 8 + 2, none⟩ (.int .i64 0)).setCell ⟨g, k * 8 + 3, none⟩ (.int .i64 0)).setCell ⟨g, k * 8 + 4, none⟩ (.int .i64 (-1))).setCell ⟨g, k * 8 + 5, none⟩ (.slice none 0 0)).setCell ⟨g, k * 8 + 6, none⟩ (.int .i64 (-1))).setCell ⟨g, k * 8 + 7, none⟩ (.bool false)) = W4 := ⟨_, rfl⟩
      rw [hW4] at P8 rc0 HB4 ⊢
      clear hW4 HO HB3 r0 r1 r2 r3 r4 r5 r6 r7 f0 f1 f2 f3 f4 f5 f6 f7 m0 m1 m2 m3 y0 y3
      have rc : (W4.setCell ⟨w.heap.size + 1 + 1, 0, none⟩ (.slice (some ⟨g, 0, none⟩) q cap)).cell? ⟨w.heap.size + 1 + 1, 0, none⟩ = some (.slice (some ⟨g, 0, none⟩) q cap) := World.cell?_setCell_same _ _ _ rc0
      refine bodyPost_ret (v := .tuple #[.agg #[.slice (some ⟨g, 0, none⟩) q cap], .int .i64 0]) (by simp [results, Try.results15, go_sem, rc]) rfl ⟨some ⟨g, 0, none⟩, cap, by rw [HT.out, List.length_set, HN.out], HB4.out.setCell (by simp; omega) _, ?_⟩
      rw [HT.out]
      exact (P8.out.other (fun b hb _ => Below.heap_setCell _ _ _ _ (by simp; omega))).ndsAt (by rw [List.length_set]; exact HN.out)
end Go.Proofs.Ytjlapfgghljidaa
