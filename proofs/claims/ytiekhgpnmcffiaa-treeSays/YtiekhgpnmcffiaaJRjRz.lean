/-
  The reference's Made, where no node is made.
-/
import Derived.Test.YtiekhgpnmcffiaaJRi
import Derived.Test.YtiekhgpnmcffiaaJTe
namespace Go.Proofs.Ytiekhgpnmcffiaa
open Go.RowKit

/-- The same, of a store that may have no places. -/
theorem own_after0 {w w1 w2 : World} {a : Option Addr} {c n : Nat} {S : List Nd} {K : Nat → Value} {v : Value} (hb1 : Below (w.heap.size + 1 + 1 + 1) (((w.alloc (.cells #[.slice a n c] 29)).alloc (.cells #[.slice none 0 0] 29)).alloc (.cells #[.int .i64 0, .int .i64 0] 31)) w1) (hb2 : Below w1.heap.size w1 w2) (hown : OwnK w1.heap.size S n K v w2) :
    ∃ va vc, v = .slice va n vc ∧ OwnK (w.heap.size + 3) S n K (.slice va n vc) (w2.setCell ⟨w.heap.size, 0, none⟩ (.slice va n vc)) ∧
    Below w.heap.size w (w2.setCell ⟨w.heap.size, 0, none⟩ (.slice va n vc)) ∧ (w2.cell? ⟨w.heap.size, 0, none⟩ = some (.slice a n c) ∧ w2.frozen? ⟨w.heap.size, 0, none⟩ = false) ∧
    w2.cell? ⟨w.heap.size + 1, 0, none⟩ = some (.slice none 0 0) ∧ w2.cell? ⟨w.heap.size + 1 + 1, 0, none⟩ = some (.int .i64 0) ∧ w2.cell? ⟨w.heap.size + 1 + 1, 1, none⟩ = some (.int .i64 0) ∧
    w2.frozen? ⟨w.heap.size + 1, 0, none⟩ = false ∧ w2.frozen? ⟨w.heap.size + 1 + 1, 0, none⟩ = false ∧ w2.frozen? ⟨w.heap.size + 1 + 1, 1, none⟩ = false := by
  have hs1 := hb1.size
  simp only [World.size_alloc] at hs1
  have hb3 : Below (w.heap.size + 1 + 1 + 1) _ w2 := hb1.trans (hb2.mono (by omega))
  obtain ⟨l0, l1, l2, l3, z1, z2, z3⟩ := make_low hb3
  have z0 : w2.frozen? ⟨w.heap.size, 0, none⟩ = false := (hb3.frozen (by simp; omega)).trans (by go_simp)
  have hm := hown.1
  obtain ⟨va, vc, rfl⟩ : ∃ va vc, v = .slice va n vc := by
    rcases hm.2 with ⟨h, h0⟩ | ⟨g, cap, cur, h, h1, _, h3, h4, _⟩
    · exact ⟨none, 0, by rw [h, h0]⟩
    · exact ⟨_, cap, h⟩
  refine ⟨va, vc, rfl, ?_, ?_, ⟨l0, z0⟩, l1, l2, l3, z1, z2, z3⟩
  · have ho : OwnK (w.heap.size + 3) S n K (.slice va n vc) w2 := ⟨ownsRow_baseL hown.1 (by omega), fun i hi => ownsRow_baseL (hown.2 i hi) (by omega)⟩
    exact ho.other (fun b hb _ => Below.heap_setCell _ _ _ _ (by simp; omega))
  · exact ((three_below _ _ _ _).trans (hb3.mono (by omega))).setCell (by simp) _


set_option maxHeartbeats 2000000 in
theorem rMade_err (a : Option Addr) (c : Nat) (S : List Nd) (t E : Int) (w : World) (hC : RChk a c S) (hS : NdsAt w a S) (hB : checkE S = 0 → S.length ≤ 24 ∧ (∀ i, i < S.length → (nd S i).ks.length ≤ 1000) ∧ ∀ i, i < S.length → 0 ≤ (nd S i).n ∧ (nd S i).n ≤ 1000000) (hE : makeE S t = E) (hE0 : E ≠ 0) :
    Calls Try.prog 15 #[.agg #[.slice a S.length c], .int .i64 t] w fun e w' => e = .returned (.tuple #[.agg #[.slice none 0 0], .agg #[.int .i64 0, .int .i64 0], .int .i64 E]) ∧ Below w.heap.size w w' := by
  have dc : Hid _ := hC
  unfold RChk at dc
  have HS : Hid (NdsAt w a S) := hS
  unfold makeE at hE
  by_cases hc : checkE S = 0
  · obtain ⟨hN, hK, hR⟩ := hB hc
    rw [if_pos hc] at hE
    rw [hc] at dc
    by_cases ht : 0 ≤ t ∧ t ≤ 99
    · rw [if_pos ht] at hE
      have dt : decide (0 ≤ t ∧ t ≤ 99) = true := decide_eq_true ht
      cases hf : S.any freeB with
      | true => rw [hf] at hE; exact absurd hE.symm hE0
      | false =>
        rw [hf, if_neg (by simp)] at hE
        have hall : ∀ i, i < S.length → freeB (nd S i) = false := fun i hi => by
          have := List.any_eq_false.1 hf (nd S i) (by rw [nd_elem hi]; exact List.getElem_mem hi)
          simpa using this
        subst hE
        have DO : Hid (∀ W, NdsAt W a S → Calls _ _ _ _ _) := fun W hW => rOwn_any a c S W (by omega) (fun i hi => by have := hK i hi; omega) hW
        have HALL : Hid _ := hall
        have HR : Hid _ := hR
        have din := fun W => rin_any t 0 99 W
        rw [dt] at din
        clear hS hC hB hc hf hE0 hall hR hK dt ht
        generalize hn : S.length = n at *
        have HN : Hid (S.length = n) := hn
        clear hn
        go_enter Try.func15, Try.ntmps15
        go_wp2_with (go_at_call 17; refine (dc.out _ (HS.out.below (three_below _ _ _ _))).mono ?_; rintro e w1 ⟨rfl, hb1⟩; simp only [World.size_alloc] at hb1; obtain ⟨l0, l1, l2, l3, z1, z2, z3⟩ := make_low hb1; have hB1 : Below w.heap.size w w1 := (three_below _ _ _ _).trans (hb1.mono (by omega)))
        go_wp2_with (first
          | (go_at_call 42; refine (din _).mono ?_; rintro e w1' ⟨rfl, rfl⟩)
          | (go_at_call 10; refine (DO.out _ (HS.out.below hB1)).mono ?_; rintro e w2 ⟨v, K, rfl, hb2, hown⟩; obtain ⟨va, vc, rfl, hO, hB3, ⟨m0, y0⟩, m1, m2, m3, y1, y2, y3⟩ := own_after0 hb1 hb2 hown; have HO : Hid _ := hO; have HB3 : Hid _ := hB3; clear hown hb2 hO hB3 l0 l1 l2 l3 z1 z2 z3))
        clear din dc DO HS hb1 hB1
        go_loopg [27] n (fun gg s27 wr => ∃ q : Nat, q ≤ n ∧ n - q ≤ gg ∧ s27 = .int .i64 q ∧ wr.cell? ⟨w.heap.size, 0, none⟩ = some (.slice va n vc) ∧ wr.cell? ⟨w.heap.size + 1, 0, none⟩ = some (.slice none 0 0) ∧ wr.cell? ⟨w.heap.size + 1 + 1, 0, none⟩ = some (.int .i64 0) ∧ wr.cell? ⟨w.heap.size + 1 + 1, 1, none⟩ = some (.int .i64 0) ∧ wr.frozen? ⟨w.heap.size + 1, 0, none⟩ = false ∧ wr.frozen? ⟨w.heap.size + 1 + 1, 0, none⟩ = false ∧ wr.frozen? ⟨w.heap.size + 1 + 1, 1, none⟩ = false ∧ Hid (OwnK (w.heap.size + 3) S n K (.slice va n vc) wr) ∧ Hid (Below w.heap.size w wr))
        case atStart =>
          refine ⟨0, by omega, by omega, rfl, World.cell?_setCell_same _ _ _ m0, ?_, ?_, ?_, ?_, ?_, ?_, HO, HB3⟩
          all_goals first
            | (rw [World.cell?_setCell_other _ _ _ _ (by simp)]; assumption)
            | (rw [World.frozen?_setCell]; assumption)
        case round =>
          clear HO HB3 m0 y0 m1 m2 m3 y1 y2 y3
          obtain ⟨q, hq, hgg, rfl, m0, m1, m2, m3, y1, y2, y3, HO, HB⟩ := hrel
          by_cases hqn : q < n
          · have hqn2 : (q : Int) < (n : Int) := by omega
            have hoo := HO.out
            obtain ⟨g, rfl, hgs⟩ : ∃ g, va = some ⟨g, 0, none⟩ ∧ True := by
              rcases hoo.1.2 with ⟨_, h⟩ | ⟨g, cap, cur, h, _⟩
              · omega
              · cases h; exact ⟨g, rfl, trivial⟩
            clear hoo
            have r0 : wr.cell? ⟨g, q * 8, none⟩ = some (.bool (nd S q).u) := HO.out.cellAt (i := q) (j := 0) hqn (by omega)
            have r1 : wr.cell? ⟨g, q * 8 + 1, none⟩ = some (.int .i64 (nd S q).n) := HO.out.cellAt (i := q) (j := 1) hqn (by omega)
            have hfq := HALL.out q hqn
            have hrq := HR.out q hqn
            unfold freeB at hfq
            generalize (nd S q).u = xu at *
            generalize (nd S q).n = xn at *
            cases xu with
            | true =>
              go_wp2
              go_roundg (n - (q + 1))
              case measure => omega
              case rel => exact ⟨q + 1, by omega, by omega, by go_num, m0, m1, m2, m3, y1, y2, y3, HO, HB⟩
            | false =>
              have hx : xn = 1000000 := by
                simp at hfq
                omega
              subst hx
              go_wp2
              go_roundg (n - (q + 1))
              case measure => omega
              case rel => exact ⟨q + 1, by omega, by omega, by go_num, m0, m1, m2, m3, y1, y2, y3, HO, HB⟩
          · have hqe : q = n := by omega
            subst hqe
            go_wp2
            refine bodyPost_ret (v := .tuple #[.agg #[.slice none 0 0], .agg #[.int .i64 0, .int .i64 0], .int .i64 1]) (by simp [results, Try.results15, go_sem, m1, m2, m3]) rfl ⟨rfl, ?_⟩
            first | exact ((HB.out.setCell (by simp) _).setCell (by simp; omega) _).setCell (by simp; omega) _ | exact (((HB.out.setCell (by simp) _).setCell (by simp; omega) _).setCell (by simp; omega) _).drew
    · rw [if_neg ht] at hE
      have dt : decide (0 ≤ t ∧ t ≤ 99) = false := decide_eq_false ht
      have din := fun W => rin_any t 0 99 W
      rw [dt] at din
      subst hE
      clear hS hC hB hc hE0 hR hK dt ht
      generalize S.length = n at *
      go_enter Try.func15, Try.ntmps15
      go_wp2_with (go_at_call 17; refine (dc.out _ (HS.out.below (three_below _ _ _ _))).mono ?_; rintro e w1 ⟨rfl, hb1⟩; simp only [World.size_alloc] at hb1; obtain ⟨l0, l1, l2, l3, z1, z2, z3⟩ := make_low hb1; have hB1 : Below w.heap.size w w1 := (three_below _ _ _ _).trans (hb1.mono (by omega)))
      go_wp2_with (go_at_call 42; refine (din _).mono ?_; rintro e w1' ⟨rfl, rfl⟩)
      refine bodyPost_ret (v := .tuple #[.agg #[.slice none 0 0], .agg #[.int .i64 0, .int .i64 0], .int .i64 2]) (by simp [results, Try.results15, go_sem, l1, l2, l3]) rfl ⟨rfl, ?_⟩
      first | exact ((hB1.setCell (by simp) _).setCell (by simp; omega) _).setCell (by simp; omega) _ | exact (((hB1.setCell (by simp) _).setCell (by simp; omega) _).setCell (by simp; omega) _).drew
  · rw [if_neg hc] at hE
    rw [hE] at dc
    have hz : (E == 0) = false := by simp [hE0]
    clear hS hE hB hc hC
    generalize S.length = n at *
    go_enter Try.func15, Try.ntmps15
    go_wp2_with (go_at_call 17; refine (dc.out _ (HS.out.below (three_below _ _ _ _))).mono ?_; rintro e w1 ⟨rfl, hb1⟩; simp only [World.size_alloc] at hb1; obtain ⟨l0, l1, l2, l3, z1, z2, z3⟩ := make_low hb1; have hB1 : Below w.heap.size w w1 := (three_below _ _ _ _).trans (hb1.mono (by omega)))
    refine bodyPost_ret (v := .tuple #[.agg #[.slice none 0 0], .agg #[.int .i64 0, .int .i64 0], .int .i64 E]) (by simp [results, Try.results15, go_sem, l1, l2, l3]) rfl ⟨rfl, ?_⟩
    first | exact ((hB1.setCell (by simp) _).setCell (by simp; omega) _).setCell (by simp; omega) _ | exact (((hB1.setCell (by simp) _).setCell (by simp; omega) _).setCell (by simp; omega) _).drew
end Go.Proofs.Ytiekhgpnmcffiaa

namespace Go.Proofs.Ytiekhgpnmcffiaa
open Go.RowKit

theorem alloc_cell (W : World) (xs : Array Value) (t j : Nat) {v : Value} (h : xs[j]? = some v) : (W.alloc (.cells xs t)).cell? ⟨W.heap.size, j, none⟩ = some v := by
  have e := heap_alloc_new W (.cells xs t)
  simp only [World.cell?, e]
  exact h
theorem keepC {W W' : World} {b o : Nat} {v : Value} (h : W.cell? ⟨b, o, none⟩ = some v) (hb : Below W.heap.size W W') : W'.cell? ⟨b, o, none⟩ = some v := (hb.cell (World.block_lt_of_cell? _ _ h)).trans h
theorem one_belowS (w : World) (o1 : Obj) : Below w.heap.size w (w.alloc o1) := (Below.refl _ _).alloc (Nat.le_refl _) _
theorem two_belowS (w : World) (o1 o2 : Obj) : Below w.heap.size w ((w.alloc o1).alloc o2) := ((Below.refl _ _).alloc (Nat.le_refl _) _).alloc (by simp) _
theorem alloc_cell1 (W : World) (xs : Array Value) (t j : Nat) {v : Value} (o2 : Obj) (h : xs[j]? = some v) : ((W.alloc (.cells xs t)).alloc o2).cell? ⟨W.heap.size, j, none⟩ = some v := keepC (alloc_cell W xs t j h) (one_belowS _ _)
theorem alloc_cell2 (W : World) (xs : Array Value) (t j : Nat) {v : Value} (o1 : Obj) (h : xs[j]? = some v) : ((W.alloc o1).alloc (.cells xs t)).cell? ⟨W.heap.size + 1, j, none⟩ = some v := by
  have := alloc_cell (W.alloc o1) xs t j h
  simpa using this
end Go.Proofs.Ytiekhgpnmcffiaa
