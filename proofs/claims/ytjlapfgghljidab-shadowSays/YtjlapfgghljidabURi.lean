/-
  The reference's Made.
-/
import Derived.Test.YtjlapfgghljidabURzRaRbRhRdRe
import Derived.Test.YtjlapfgghljidabUTdTe
import Derived.Test.YtjlapfgghljidabUWbWdXa
namespace Go.Proofs.Ytjlapfgghljidab
open Go.RowKit

/-- Behind OwnStore, in a function with three boxes: the row, and what is known of the boxes. -/
theorem own_after {w w1 w2 : World} {a : Option Addr} {c n : Nat} {S : List Nd} {K : Nat → Value} {v : Value} (h0 : 0 < n) (hb1 : Below (w.heap.size + 1 + 1 + 1) (((w.alloc (.cells #[.slice a n c] 24)).alloc (.cells #[.slice none 0 0] 24)).alloc (.cells #[.int .i64 0, .int .i64 0] 26)) w1) (hb2 : Below w1.heap.size w1 w2) (hown : OwnK w1.heap.size S n K v w2) :
    ∃ g cap, v = .slice (some ⟨g, 0, none⟩) n cap ∧ w.heap.size + 3 ≤ g ∧ g < w2.heap.size ∧ n ≤ cap ∧ cap ≤ 9223372036854775807 ∧ OwnK (w.heap.size + 3) S n K (.slice (some ⟨g, 0, none⟩) n cap) (w2.setCell ⟨w.heap.size, 0, none⟩ (.slice (some ⟨g, 0, none⟩) n cap)) ∧
    Below w.heap.size w (w2.setCell ⟨w.heap.size, 0, none⟩ (.slice (some ⟨g, 0, none⟩) n cap)) ∧ (w2.cell? ⟨w.heap.size, 0, none⟩ = some (.slice a n c) ∧ w2.frozen? ⟨w.heap.size, 0, none⟩ = false) ∧
    w2.cell? ⟨w.heap.size + 1, 0, none⟩ = some (.slice none 0 0) ∧ w2.cell? ⟨w.heap.size + 1 + 1, 0, none⟩ = some (.int .i64 0) ∧ w2.cell? ⟨w.heap.size + 1 + 1, 1, none⟩ = some (.int .i64 0) ∧
    w2.frozen? ⟨w.heap.size + 1, 0, none⟩ = false ∧ w2.frozen? ⟨w.heap.size + 1 + 1, 0, none⟩ = false ∧ w2.frozen? ⟨w.heap.size + 1 + 1, 1, none⟩ = false := by
  have hs1 := hb1.size
  simp only [World.size_alloc] at hs1
  have hb3 : Below (w.heap.size + 1 + 1 + 1) _ w2 := hb1.trans (hb2.mono (by omega))
  obtain ⟨l0, l1, l2, l3, z1, z2, z3⟩ := make_low hb3
  have z0 : w2.frozen? ⟨w.heap.size, 0, none⟩ = false := (hb3.frozen (by simp; omega)).trans (by go_simp)
  have hm := hown.1
  obtain ⟨g, cap, rfl, h1, h2, h3, h4⟩ : ∃ g cap, v = .slice (some ⟨g, 0, none⟩) n cap ∧ w1.heap.size ≤ g ∧ g < w2.heap.size ∧ n ≤ cap ∧ cap ≤ 9223372036854775807 := by
    have hl := hm.lt
    rcases hm.2 with ⟨_, h⟩ | ⟨g, cap, cur, h, h1, _, h3, h4, _⟩
    · omega
    · subst h
      exact ⟨g, cap, rfl, h1, (hl g rfl).2, h3, by unfold maxLen at h4; omega⟩
  refine ⟨g, cap, rfl, by omega, h2, h3, h4, ?_, ?_, ⟨l0, z0⟩, l1, l2, l3, z1, z2, z3⟩
  · have ho : OwnK (w.heap.size + 3) S n K (.slice (some ⟨g, 0, none⟩) n cap) w2 := ⟨ownsRow_baseL hown.1 (by omega), fun i hi => ownsRow_baseL (hown.2 i hi) (by omega)⟩
    exact ho.other (fun b hb _ => Below.heap_setCell _ _ _ _ (by simp; omega))
  · exact ((three_below _ _ _ _).trans (hb3.mono (by omega))).setCell (by simp) _

theorem cell_else {W : World} {g o1 b o : Nat} {u v : Value} (hb : b ≠ g) (h : W.cell? ⟨b, o, none⟩ = some v) : (W.setCell ⟨g, o1, none⟩ u).cell? ⟨b, o, none⟩ = some v :=
  (World.cell?_of_block (Below.heap_setCell _ _ _ _ hb)).trans h
theorem frozen_else {W : World} {a b : Addr} {u : Value} (h : W.frozen? b = false) : (W.setCell a u).frozen? b = false := by
  rw [World.frozen?_setCell]; exact h

set_option maxHeartbeats 2000000 in
theorem rMade_own (a : Option Addr) (c : Nat) (S : List Nd) (t : Int) (w : World) (hC : RChk a c S) (hS : NdsAt w a S) (hN : S.length ≤ 24) (hK : ∀ i, i < S.length → (nd S i).ks.length ≤ 1000) (hE : checkE S = 0) (ht0 : 0 ≤ t) (ht1 : t ≤ 99) (k : Nat) (hk : k < S.length) (hfr : freeB (nd S k) = true) (h0 : ∀ i, i < S.length → 0 ≤ (nd S i).n ∧ (nd S i).n ≤ 1000000) (hall : ∀ i, i < k → freeB (nd S i) = false) :
    Calls Try.prog 59 #[.agg #[.slice a S.length c], .int .i64 t] w fun e w' => ∃ g cap K, e = .returned (.tuple #[.agg #[.slice (some ⟨g, 0, none⟩) S.length cap], .agg #[.int .i64 k, .int .i64 ((nd S k).n + 1)], .int .i64 0]) ∧ Below w.heap.size w w' ∧ OwnK (w.heap.size + 3) (S.set k (madeNd (nd S k) t)) S.length K (.slice (some ⟨g, 0, none⟩) S.length cap) w' := by
  have dc : Hid _ := hC
  unfold RChk at dc
  rw [hE] at dc
  have DO : Hid (∀ W, NdsAt W a S → Calls _ _ _ _ _) := fun W hW => rOwn_any a c S W (by omega) (fun i hi => by have := hK i hi; omega) hW
  have HS : Hid (NdsAt w a S) := hS
  clear hS hC
  generalize hn : S.length = n at *
  have HN : Hid (S.length = n) := hn
  clear hn
  go_enter Try.func59, Try.ntmps59
  go_wp2_with (go_at_call 32; refine (dc.out _ (HS.out.below (three_below _ _ _ _))).mono ?_; rintro e w1 ⟨rfl, hb1⟩; simp only [World.size_alloc] at hb1; obtain ⟨l0, l1, l2, l3, z1, z2, z3⟩ := make_low hb1; have hB1 : Below w.heap.size w w1 := (three_below _ _ _ _).trans (hb1.mono (by omega)))
  have dt : decide (0 ≤ t ∧ t ≤ 99) = true := decide_eq_true ⟨ht0, ht1⟩
  have din := fun W => rin_any t 0 99 W
  rw [dt] at din
  have hs1 := hb1.size
  simp only [World.size_alloc] at hs1
  go_wp2_with (first
    | (go_at_call 51; refine (din _).mono ?_; rintro e w1' ⟨rfl, rfl⟩)
    | (go_at_call 84; refine (DO.out _ (HS.out.below hB1)).mono ?_; rintro e w2 ⟨v, K, rfl, hb2, hown⟩; obtain ⟨g, cap, rfl, hg, hg2, hcap, hcm, hO, hB3, ⟨m0, y0⟩, m1, m2, m3, y1, y2, y3⟩ := own_after (by omega) hb1 hb2 hown; have HO : Hid _ := hO; have HB3 : Hid _ := hB3; clear hown hb2 hO hB3 l0 l1 l2 l3 z1 z2 z3))
  have HALL : Hid _ := hall
  have HR : Hid _ := h0
  clear hall h0 din dt dc DO HS hb1 hB1 hs1 hK
  go_loopg [27] (k + 1) (fun gg s27 wr => ∃ q : Nat, q ≤ k ∧ k - q < gg ∧ s27 = .int .i64 q ∧ wr.cell? ⟨w.heap.size, 0, none⟩ = some (.slice (some ⟨g, 0, none⟩) n cap) ∧ wr.cell? ⟨w.heap.size + 1, 0, none⟩ = some (.slice none 0 0) ∧ wr.cell? ⟨w.heap.size + 1 + 1, 0, none⟩ = some (.int .i64 0) ∧ wr.cell? ⟨w.heap.size + 1 + 1, 1, none⟩ = some (.int .i64 0) ∧ wr.frozen? ⟨w.heap.size + 1, 0, none⟩ = false ∧ wr.frozen? ⟨w.heap.size + 1 + 1, 0, none⟩ = false ∧ wr.frozen? ⟨w.heap.size + 1 + 1, 1, none⟩ = false ∧ Hid (OwnK (w.heap.size + 3) S n K (.slice (some ⟨g, 0, none⟩) n cap) wr) ∧ Hid (Below w.heap.size w wr))
  case atStart =>
    refine ⟨0, by omega, by omega, rfl, World.cell?_setCell_same _ _ _ m0, ?_, ?_, ?_, ?_, ?_, ?_, HO, HB3⟩
    all_goals first
      | (rw [World.cell?_setCell_other _ _ _ _ (by simp)]; assumption)
      | (rw [World.frozen?_setCell]; assumption)
  case round =>
    clear HO HB3 m0 y0 m1 m2 m3 y1 y2 y3
    obtain ⟨q, hq, hgg, rfl, m0, m1, m2, m3, y1, y2, y3, HO, HB⟩ := hrel
    have hqn : q < n := by omega
    have hqn2 : (q : Int) < (n : Int) := by omega
    have r0 : wr.cell? ⟨g, q * 8, none⟩ = some (.bool (nd S q).u) := HO.out.cellAt (i := q) (j := 0) hqn (by omega)
    have r1 : wr.cell? ⟨g, q * 8 + 1, none⟩ = some (.int .i64 (nd S q).n) := HO.out.cellAt (i := q) (j := 1) hqn (by omega)
    by_cases hqk : q < k
    · have hfq := HALL.out q hqk
      have hrq := HR.out q hqn
      unfold freeB at hfq
      generalize (nd S q).u = xu at *
      generalize (nd S q).n = xn at *
      cases xu with
      | true =>
        go_wp2
        go_roundg (k - q)
        case measure => omega
        case rel => exact ⟨q + 1, by omega, by omega, by go_num, m0, m1, m2, m3, y1, y2, y3, HO, HB⟩
      | false =>
        have hx : xn = 1000000 := by
          simp at hfq
          omega
        subst hx
        go_wp2
        go_roundg (k - q)
        case measure => omega
        case rel => exact ⟨q + 1, by omega, by omega, by go_num, m0, m1, m2, m3, y1, y2, y3, HO, HB⟩
    · have hqe : q = k := by omega
      subst hqe
      have r2 : wr.cell? ⟨g, q * 8 + 2, none⟩ = some (.int .i64 (nd S q).t) := HO.out.cellAt (i := q) (j := 2) hqn (by omega)
      have f0 := HO.out.frozenAt (q * 8)
      have f1 := HO.out.frozenAt (q * 8 + 1)
      have f2 := HO.out.frozenAt (q * 8 + 2)
      have hrq := HR.out q hqn
      have hu : (nd S q).u = false := by unfold freeB at hfr; simp at hfr; exact hfr.1
      have hn1 : (nd S q).n < 1000000 := by unfold freeB at hfr; simp at hfr; exact hfr.2
      rw [hu] at r0
      have hbg : w.heap.size ≠ g := by omega
      have hbg1 : w.heap.size + 1 ≠ g := by omega
      have hbg2 : w.heap.size + 1 + 1 ≠ g := by omega
      have hn2 : ((nd S q).n == 1000000) = false := by simp; omega
      have PUT : Hid (OwnK (w.heap.size + 3) (S.set q (madeNd (nd S q) t)) n K (.slice (some ⟨g, 0, none⟩) n cap) (((wr.setCell ⟨g, q * 8 + 1, none⟩ (.int .i64 ((nd S q).n + 1))).setCell ⟨g, q * 8, none⟩ (.bool true)).setCell ⟨g, q * 8 + 2, none⟩ (.int .i64 t))) := by
        have p1 := HO.out.put1 (k := q) (j := 1) (u := .int .i64 ((nd S q).n + 1)) hqn HN.out (by omega) ⟨(nd S q).u, (nd S q).n + 1, (nd S q).t, (nd S q).m, (nd S q).p, (nd S q).ks, (nd S q).h, (nd S q).c⟩ (fun v j' hj' => by
          match j', hj' with
          | 0, _ | 1, _ | 2, _ | 3, _ | 4, _ | 5, _ | 6, _ | 7, _ => rfl) rfl
        have p2 := p1.put1 (k := q) (j := 0) (u := .bool true) hqn (by rw [List.length_set]; exact HN.out) (by omega) ⟨true, (nd S q).n + 1, (nd S q).t, (nd S q).m, (nd S q).p, (nd S q).ks, (nd S q).h, (nd S q).c⟩ (fun v j' hj' => by
          rw [nd_set S q q _ (by rw [HN.out]; exact hqn), if_pos rfl]
          match j', hj' with
          | 0, _ | 1, _ | 2, _ | 3, _ | 4, _ | 5, _ | 6, _ | 7, _ => rfl) (by rw [nd_set S q q _ (by rw [HN.out]; exact hqn), if_pos rfl])
        have p3 := p2.put1 (k := q) (j := 2) (u := .int .i64 t) hqn (by rw [List.length_set, List.length_set]; exact HN.out) (by omega) ⟨true, (nd S q).n + 1, t, (nd S q).m, (nd S q).p, (nd S q).ks, (nd S q).h, (nd S q).c⟩ (fun v j' hj' => by
          rw [nd_set _ q q _ (by rw [List.length_set, HN.out]; exact hqn), if_pos rfl]
          match j', hj' with
          | 0, _ | 1, _ | 2, _ | 3, _ | 4, _ | 5, _ | 6, _ | 7, _ => rfl) (by rw [nd_set _ q q _ (by rw [List.length_set, HN.out]; exact hqn), if_pos rfl])
        rw [List.set_set, List.set_set] at p3
        exact p3
      generalize hxn : (nd S q).n = xn at *
      have HXN : Hid _ := hxn
      clear hxn
      generalize (nd S q).t = xt at *
      go_wp2
      obtain ⟨W3, hW3⟩ : ∃ W3, (((wr.setCell ⟨g, q * 8 + 1, none⟩ (.int .i64 (xn + 1))).setCell ⟨g, q * 8, none⟩ (.bool true)).setCell ⟨g, q * 8 + 2, none⟩ (.int .i64 t)) = W3 := ⟨_, rfl⟩
      have HB4 : Hid (Below w.heap.size w W3) := by
        rw [← hW3]
        exact ((HB.out.setCell (by simp; omega) _).setCell (by simp; omega) _).setCell (by simp; omega) _
      have s0 : W3.cell? ⟨w.heap.size, 0, none⟩ = some (.slice (some ⟨g, 0, none⟩) n cap) := by rw [← hW3]; exact cell_else hbg (cell_else hbg (cell_else hbg m0))
      have s1 : W3.cell? ⟨w.heap.size + 1, 0, none⟩ = some (.slice none 0 0) := by rw [← hW3]; exact cell_else hbg1 (cell_else hbg1 (cell_else hbg1 m1))
      have s2 : W3.cell? ⟨w.heap.size + 1 + 1, 0, none⟩ = some (.int .i64 0) := by rw [← hW3]; exact cell_else hbg2 (cell_else hbg2 (cell_else hbg2 m2))
      have s3 : W3.cell? ⟨w.heap.size + 1 + 1, 1, none⟩ = some (.int .i64 0) := by rw [← hW3]; exact cell_else hbg2 (cell_else hbg2 (cell_else hbg2 m3))
      have s4 : W3.cell? ⟨g, q * 8 + 1, none⟩ = some (.int .i64 (xn + 1)) := by rw [← hW3, World.cell?_setCell_other _ _ _ _ (by simp), World.cell?_setCell_other _ _ _ _ (by simp)]; exact World.cell?_setCell_same _ _ _ r1
      have v1 : W3.frozen? ⟨w.heap.size + 1, 0, none⟩ = false := by rw [← hW3]; exact frozen_else (frozen_else (frozen_else y1))
      have v2 : W3.frozen? ⟨w.heap.size + 1 + 1, 0, none⟩ = false := by rw [← hW3]; exact frozen_else (frozen_else (frozen_else y2))
      have v3 : W3.frozen? ⟨w.heap.size + 1 + 1, 1, none⟩ = false := by rw [← hW3]; exact frozen_else (frozen_else (frozen_else y3))
      rw [hW3] at PUT ⊢
      clear hW3 HB m0 m1 m2 m3 y1 y2 y3 r0 r1 r2 f0 f1 f2 HO
      go_region
      all_goals (try go_wp2)
      have hlow : ∀ b, w.heap.size + 3 ≤ b → ((((W3.setCell ⟨w.heap.size + 1, 0, none⟩ (.slice (some ⟨g, 0, none⟩) n cap)).setCell ⟨w.heap.size + 1 + 1, 0, none⟩ (.int .i64 q)).setCell ⟨w.heap.size + 1 + 1, 1, none⟩ (.int .i64 (xn + 1)))).heap[b]? = W3.heap[b]? := fun b hb =>
        (Below.heap_setCell _ _ _ _ (by simp; omega)).trans ((Below.heap_setCell _ _ _ _ (by simp; omega)).trans (Below.heap_setCell _ _ _ _ (by simp; omega)))
      refine bodyPost_ret (v := .tuple #[.agg #[.slice (some ⟨g, 0, none⟩) n cap], .agg #[.int .i64 q, .int .i64 (xn + 1)], .int .i64 0]) (by simp [results, Try.results59, go_sem, s1, s2, s3]) rfl ⟨g, cap, K, by rw [HXN.out], ?_, ?_⟩
      · first
          | exact (((HB4.out.setCell (by simp) _).setCell (by simp; omega) _).setCell (by simp; omega) _).drew
          | exact ((HB4.out.setCell (by simp) _).setCell (by simp; omega) _).setCell (by simp; omega) _
      · exact PUT.out.other (fun b hb _ => hlow b hb)


theorem rMade_ok (a : Option Addr) (c : Nat) (S : List Nd) (t : Int) (w : World) (hC : RChk a c S) (hS : NdsAt w a S) (hN : S.length ≤ 24) (hK : ∀ i, i < S.length → (nd S i).ks.length ≤ 1000) (hE : checkE S = 0) (ht0 : 0 ≤ t) (ht1 : t ≤ 99) (k : Nat) (hk : k < S.length) (hfr : freeB (nd S k) = true) (h0 : ∀ i, i < S.length → 0 ≤ (nd S i).n ∧ (nd S i).n ≤ 1000000) (hall : ∀ i, i < k → freeB (nd S i) = false) :
    Calls Try.prog 59 #[.agg #[.slice a S.length c], .int .i64 t] w fun e w' => ∃ a' c', e = .returned (.tuple #[.agg #[.slice a' S.length c'], .agg #[.int .i64 k, .int .i64 ((nd S k).n + 1)], .int .i64 0]) ∧ Below w.heap.size w w' ∧ NdsAt w' a' (S.set k (madeNd (nd S k) t)) :=
  (rMade_own a c S t w hC hS hN hK hE ht0 ht1 k hk hfr h0 hall).mono (fun e w' ⟨g, cap, K, e1, hb, ho⟩ => ⟨some ⟨g, 0, none⟩, cap, e1, hb, ho.ndsAt (by rw [List.length_set])⟩)
end Go.Proofs.Ytjlapfgghljidab
