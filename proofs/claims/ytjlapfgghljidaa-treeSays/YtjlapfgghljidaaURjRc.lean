/-
  The reference's Made, where no node is made.
-/
import Derived.Test.YtjlapfgghljidaaURaRbRhRiRz
import Derived.Test.YtjlapfgghljidaaUWe
namespace Go.Proofs.Ytjlapfgghljidaa
open Go.RowKit

/-- The same, of a store that may have no places. -/
theorem own_after0 {w w1 w2 : World} {a : Option Addr} {c n : Nat} {S : List Nd} {K : Nat → Value} {v : Value} (hb1 : Below (w.heap.size + 1 + 1 + 1) (((w.alloc (.cells #[.slice a n c] 24)).alloc (.cells #[.slice none 0 0] 24)).alloc (.cells #[.int .i64 0, .int .i64 0] 26)) w1) (hb2 : Below w1.heap.size w1 w2) (hown : OwnK w1.heap.size S n K v w2) :
    ∃ va vc, v = .slice va n vc ∧ OwnK (w.heap.size + 3) S n K (.slice va n vc) (w2.setCell ⟨w.heap.size, 0, none⟩ (.slice va n vc)) ∧
    Below w.heap.size w (w2.setCell ⟨w.heap.size, 0, none⟩ (.slice va n vc)) ∧ (w2.cell? ⟨w.heap.size, 0, none⟩ = some (.slice a n c) ∧ w2.frozen? ⟨w.heap.size, 0, none⟩ = false) ∧
    w2.cell? ⟨w.heap.size + 1, 0, none⟩ = some (.slice none 0 0) ∧ w2.cell? ⟨w.heap.size + 1 + 1, 0, none⟩ = some (.int .i64 0) ∧ w2.cell? ⟨w.heap.size + 1 + 1, 1, none⟩ = some (.int .i64 0) ∧
    w2.frozen? ⟨w.heap.size + 1, 0, none⟩ = false ∧ w2.frozen? ⟨w.heap.size + 1 + 1, 0, none⟩ = false ∧ w2.frozen? ⟨w.heap.size + 1 + 1, 1, none⟩ = false := by
  have hs1 := hb1.size
  simp only [World.size_alloc] at hs1
  have hb3 : Below (w.heap.size + 1 + 1 + 1) _ w2 := hb1.trans (hb2.mono (by omega))
  obtain ⟨l0, l1, l2, l3, z1, z2, z3⟩ := make_low hb3
  have z0 : w2.frozen? ⟨w.heap.size, 0, none⟩ = false := (hb3.frozen (by simp; omega)).trans (by go_simp)
  have hm := hown.1
  obtain ⟨va, vc, rfl⟩ : ∃ va vc, v = .slice va n vc := by
    rcases hm.2 with ⟨h, h0⟩ | ⟨g, cap, cur, h, h1, _, h3, h4, _⟩
    · exact ⟨none, 0, by rw [h, h0]⟩
    · exact ⟨_, cap, h⟩
  refine ⟨va, vc, rfl, ?_, ?_, ⟨l0, z0⟩, l1, l2, l3, z1, z2, z3⟩
  · have ho : OwnK (w.heap.size + 3) S n K (.slice va n vc) w2 := ⟨ownsRow_baseL hown.1 (by omega), fun i hi => ownsRow_baseL (hown.2 i hi) (by omega)⟩
    exact ho.other (fun b hb _ => Below.heap_setCell _ _ _ _ (by simp; omega))
  · exact ((three_below _ _ _ _).trans (hb3.mono (by omega))).setCell (by simp) _


set_option maxHeartbeats 2000000 in
theorem rMade_err (a : Option Addr) (c : Nat) (S : List Nd) (t E : Int) (w : World) (hC : RChk a c S) (hS : NdsAt w a S) (hB : checkE S = 0 → S.length ≤ 24 ∧ (∀ i, i < S.length → (nd S i).ks.length ≤ 1000) ∧ ∀ i, i < S.length → 0 ≤ (nd S i).n ∧ (nd S i).n ≤ 1000000) (hE : makeE S t = E) (hE0 : E ≠ 0) :
    Calls Try.prog 14 #[.agg #[.slice a S.length c], .int .i64 t] w fun e w' => e = .returned (.tuple #[.agg #[.slice none 0 0], .agg #[.int .i64 0, .int .i64 0], .int .i64 E]) ∧ Below w.heap.size w w' := by
  have dc : Hid _ := hC
  unfold RChk at dc
  have HS : Hid (NdsAt w a S) := hS
  unfold makeE at hE
  by_cases hc : checkE S = 0
  · obtain ⟨hN, hK, hR⟩ := hB hc
    rw [if_pos hc] at hE
    rw [hc] at dc
    by_cases ht : 0 ≤ t ∧ t ≤ 99
    · rw [if_pos ht] at hE
      have dt : decide (0 ≤ t ∧ t ≤ 99) = true := decide_eq_true ht
      cases hf : S.any freeB with
      | true => rw [hf] at hE; exact absurd hE.symm hE0
      | false =>
        rw [hf, if_neg (by simp)] at hE
        have hall : ∀ i, i < S.length → freeB (nd S i) = false := fun i hi => by
          have := List.any_eq_false.1 hf (nd S i) (by rw [nd_elem hi]; exact List.getElem_mem hi)
          simpa using this
        subst hE
        have DO : Hid (∀ W, NdsAt W a S → Calls _ _ _ _ _) := fun W hW => rOwn_any a c S W (by omega) (fun i hi => by have := hK i hi; omega) hW
        have HALL : Hid _ := hall
        have HR : Hid _ := hR
        have din := fun W => rin_any t 0 99 W
        rw [dt] at din
        clear hS hC hB hc hf hE0 hall hR hK dt ht
        generalize hn : S.length = n at *
        have HN : Hid (S.length = n) := hn
        clear hn
        go_enter Try.func14, Try.ntmps14
        go_wp2_with (go_at_call 16; refine (dc.out _ (HS.out.below (three_below _ _ _ _))).mono ?_; rintro e w1 ⟨rfl, hb1⟩; simp only [World.size_alloc] at hb1; obtain ⟨l0, l1, l2, l3, z1, z2, z3⟩ := make_low hb1; have hB1 : Below w.heap.size w w1 := (three_below _ _ _ _).trans (hb1.mono (by omega)))
        go_wp2_with (first
          | (go_at_call 46; refine (din _).mono ?_; rintro e w1' ⟨rfl, rfl⟩)
          | (go_at_call 9; refine (DO.out _ (HS.out.below hB1)).mono ?_; rintro e w2 ⟨v, K, rfl, hb2, hown⟩; obtain ⟨va, vc, rfl, hO, hB3, ⟨m0, y0⟩, m1, m2, m3, y1, y2, y3⟩ := own_after0 hb1 hb2 hown; have HO : Hid _ := hO; have HB3 : Hid _ := hB3; clear hown hb2 hO hB3 l0 l1 l2 l3 z1 z2 z3))
        clear din dc DO HS hb1 hB1
        go_loopg [27] n (fun gg s27 wr => ∃ q : Nat, q ≤ n ∧ n - q ≤ gg ∧ s27 = .int .i64 q ∧ wr.cell? ⟨w.heap.size, 0, none⟩ = some (.slice va n vc) ∧ wr.cell? ⟨w.heap.size + 1, 0, none⟩ = some (.slice none 0 0) ∧ wr.cell? ⟨w.heap.size + 1 + 1, 0, none⟩ = some (.int .i64 0) ∧ wr.cell? ⟨w.heap.size + 1 + 1, 1, none⟩ = some (.int .i64 0) ∧ wr.frozen? ⟨w.heap.size + 1, 0, none⟩ = false ∧ wr.frozen? ⟨w.heap.size + 1 + 1, 0, none⟩ = false ∧ wr.frozen? ⟨w.heap.size + 1 + 1, 1, none⟩ = false ∧ Hid (OwnK (w.heap.size + 3) S n K (.slice va n vc) wr) ∧ Hid (Below w.heap.size w wr))
        case atStart =>
          refine ⟨0, by omega, by omega, rfl, World.cell?_setCell_same _ _ _ m0, ?_, ?_, ?_, ?_, ?_, ?_, HO, HB3⟩
          all_goals first
            | (rw [World.cell?_setCell_other _ _ _ _ (by simp)]; assumption)
            | (rw [World.frozen?_setCell]; assumption)
        case round =>
          clear HO HB3 m0 y0 m1 m2 m3 y1 y2 y3
          obtain ⟨q, hq, hgg, rfl, m0, m1, m2, m3, y1, y2, y3, HO, HB⟩ := hrel
          by_cases hqn : q < n
          · have hqn2 : (q : Int) < (n : Int) := by omega
            have hoo := HO.out
            obtain ⟨g, rfl, hgs⟩ : ∃ g, va = some ⟨g, 0, none⟩ ∧ True := by
              rcases hoo.1.2 with ⟨_, h⟩ | ⟨g, cap, cur, h, _⟩
              · omega
              · cases h; exact ⟨g, rfl, trivial⟩
            clear hoo
            have r0 : wr.cell? ⟨g, q * 8, none⟩ = some (.bool (nd S q).u) := HO.out.cellAt (i := q) (j := 0) hqn (by omega)
            have r1 : wr.cell? ⟨g, q * 8 + 1, none⟩ = some (.int .i64 (nd S q).n) := HO.out.cellAt (i := q) (j := 1) hqn (by omega)
            have hfq := HALL.out q hqn
            have hrq := HR.out q hqn
            unfold freeB at hfq
            generalize (nd S q).u = xu at *
            generalize (nd S q).n = xn at *
            cases xu with
            | true =>
              go_wp2
              go_roundg (n - (q + 1))
              case measure => omega
              case rel => exact ⟨q + 1, by omega, by omega, by go_num, m0, m1, m2, m3, y1, y2, y3, HO, HB⟩
            | false =>
              have hx : xn = 1000000 := by
                simp at hfq
                omega
              subst hx
              go_wp2
              go_roundg (n - (q + 1))
              case measure => omega
              case rel => exact ⟨q + 1, by omega, by omega, by go_num, m0, m1, m2, m3, y1, y2, y3, HO, HB⟩
          · have hqe : q = n := by omega
            subst hqe
            go_wp2
            refine bodyPost_ret (v := .tuple #[.agg #[.slice none 0 0], .agg #[.int .i64 0, .int .i64 0], .int .i64 1]) (by simp [results, Try.results14, go_sem, m1, m2, m3]) rfl ⟨rfl, ?_⟩
            first | exact ((HB.out.setCell (by simp) _).setCell (by simp; omega) _).setCell (by simp; omega) _ | exact (((HB.out.setCell (by simp) _).setCell (by simp; omega) _).setCell (by simp; omega) _).drew
    · rw [if_neg ht] at hE
      have dt : decide (0 ≤ t ∧ t ≤ 99) = false := decide_eq_false ht
      have din := fun W => rin_any t 0 99 W
      rw [dt] at din
      subst hE
      clear hS hC hB hc hE0 hR hK dt ht
      generalize S.length = n at *
      go_enter Try.func14, Try.ntmps14
      go_wp2_with (go_at_call 16; refine (dc.out _ (HS.out.below (three_below _ _ _ _))).mono ?_; rintro e w1 ⟨rfl, hb1⟩; simp only [World.size_alloc] at hb1; obtain ⟨l0, l1, l2, l3, z1, z2, z3⟩ := make_low hb1; have hB1 : Below w.heap.size w w1 := (three_below _ _ _ _).trans (hb1.mono (by omega)))
      go_wp2_with (go_at_call 46; refine (din _).mono ?_; rintro e w1' ⟨rfl, rfl⟩)
      refine bodyPost_ret (v := .tuple #[.agg #[.slice none 0 0], .agg #[.int .i64 0, .int .i64 0], .int .i64 2]) (by simp [results, Try.results14, go_sem, l1, l2, l3]) rfl ⟨rfl, ?_⟩
      first | exact ((hB1.setCell (by simp) _).setCell (by simp; omega) _).setCell (by simp; omega) _ | exact (((hB1.setCell (by simp) _).setCell (by simp; omega) _).setCell (by simp; omega) _).drew
  · rw [if_neg hc] at hE
    rw [hE] at dc
    have hz : (E == 0) = false := by simp [hE0]
    clear hS hE hB hc hC
    generalize S.length = n at *
    go_enter Try.func14, Try.ntmps14
    go_wp2_with (go_at_call 16; refine (dc.out _ (HS.out.below (three_below _ _ _ _))).mono ?_; rintro e w1 ⟨rfl, hb1⟩; simp only [World.size_alloc] at hb1; obtain ⟨l0, l1, l2, l3, z1, z2, z3⟩ := make_low hb1; have hB1 : Below w.heap.size w w1 := (three_below _ _ _ _).trans (hb1.mono (by omega)))
    refine bodyPost_ret (v := .tuple #[.agg #[.slice none 0 0], .agg #[.int .i64 0, .int .i64 0], .int .i64 E]) (by simp [results, Try.results14, go_sem, l1, l2, l3]) rfl ⟨rfl, ?_⟩
    first | exact ((hB1.setCell (by simp) _).setCell (by simp; omega) _).setCell (by simp; omega) _ | exact (((hB1.setCell (by simp) _).setCell (by simp; omega) _).setCell (by simp; omega) _).drew
end Go.Proofs.Ytjlapfgghljidaa

namespace Go.Proofs.Ytjlapfgghljidaa
open Go.RowKit

set_option maxRecDepth 100000 in
set_option maxHeartbeats 4000000 in
theorem rSame_any (a a' : Option Addr) (c c' : Nat) (S S' : List Nd) (w : World) (hN : S.length ≤ 9223372036854775807) (hB : Big S) (h1 : NdsAt w a S) (h2 : NdsAt w a' S') :
    Calls Try.prog 20 #[.agg #[.slice a S.length c], .agg #[.slice a' S'.length c']] w fun e w' => ∃ r : Bool, e = .returned (.bool r) ∧ Below w.heap.size w w' ∧ (r = true ↔ S = S') := by
  by_cases hl : S.length = S'.length
  · have E1 : Hid ((∀ i, i < S.length → nd S i = nd S' i) → S = S') := fun h => nds_ext hl h
    have E2 : Hid (∀ i, nd S i ≠ nd S' i → S ≠ S') := fun i h e => h (by rw [e])
    have H1 : Hid (NdsAt w a S) := h1
    have H2 : Hid (NdsAt w a' S') := h2
    have HB : Hid (Big S) := hB
    have HL : Hid (S'.length = S.length) := hl.symm
    rw [← hl]
    clear h1 h2 hB hl
    generalize hn : S.length = n at *
    have HN : Hid _ := hn
    clear hn
    go_enter Try.func20, Try.ntmps20
    go_wp2
    go_loopg [18] n (fun g s18 wr => ∃ k : Nat, k ≤ n ∧ n - k ≤ g ∧ s18 = .int .i64 k ∧ Hid (Below (w.heap.size + 1 + 1) ((w.alloc (.cells #[.slice a n c] 24)).alloc (.cells #[.slice a' n c'] 24)) wr) ∧ Hid (∀ i, i < k → nd S i = nd S' i))
    case atStart => exact ⟨0, by omega, by omega, rfl, Below.refl _ _, fun i hi => by omega⟩
    case round =>
      obtain ⟨k, hk, hg, rfl, HBr, A⟩ := hrel
      have l0 : wr.cell? ⟨w.heap.size, 0, none⟩ = some (.slice a n c) := (HBr.out.cell (by simp; omega)).trans (by go_simp)
      have l1 : wr.cell? ⟨w.heap.size + 1, 0, none⟩ = some (.slice a' n c') := (HBr.out.cell (by simp)).trans (by go_simp)
      have r0 := World.block_lt_of_cell? _ _ l0
      have r1 := World.block_lt_of_cell? _ _ l1
      have HW : Hid (Below w.heap.size w wr) := (two_below _ _ _).trans (HBr.out.mono (by omega))
      have hsr := HBr.out.size
      simp only [World.size_alloc] at hsr
      by_cases hlt : k < n
      · have hlt2 : (k : Int) < (n : Int) := by omega
        obtain ⟨b, o, rfl, c0, c1, c2, c3, c4, ⟨ka, kc, c5, hk1⟩, c6, c7⟩ := (H1.out.below HW.out) k (by rw [HN.out]; exact hlt)
        obtain ⟨b', o', rfl, e0, e1, e2, e3, e4, ⟨ka', kc', e5, hk2⟩, e6, e7⟩ := (H2.out.below HW.out) k (by rw [HL.out]; exact hlt)
        have hbb := World.block_lt_of_cell? _ _ c0
        have hbb' := World.block_lt_of_cell? _ _ e0
        have d1 := fun o1 o2 => equal_any ka ka' kc kc' (nd S k).ks (nd S' k).ks ((wr.alloc o1).alloc o2) (HB.out k (by rw [HN.out]; exact hlt)) (hk1.below (two_below _ _ _)) (hk2.below (two_below _ _ _))
        have EK2 : Hid _ := E2.out k
        have KK : Hid (nd S k = nd S' k → ∀ i, i < k + 1 → nd S i = nd S' i) := fun h i hi => by
          by_cases e : i = k
          · subst e; exact h
          · exact A.out i (by omega)
        have HB2 : Hid (∀ o1 o2, Below w.heap.size w ((wr.alloc o1).alloc o2)) := fun o1 o2 => HW.out.trans ((two_below _ _ _).mono HW.out.size)
        have HBW : Hid (∀ o1 o2 w3, Below ((wr.alloc o1).alloc o2).heap.size ((wr.alloc o1).alloc o2) w3 → Below (w.heap.size + 1 + 1) ((w.alloc (.cells #[.slice (some ⟨b, o, none⟩) n c] 24)).alloc (.cells #[.slice (some ⟨b', o', none⟩) n c'] 24)) w3) := fun o1 o2 w3 hb3 => (HBr.out.trans ((two_below wr o1 o2).mono (by omega))).trans (hb3.mono (by simp; omega))
        clear hk1 hk2
        generalize nd S k = x at *
        generalize nd S' k = y at *
        obtain ⟨xu, xn, xt, xm, xp, xks, xh, xc⟩ := x
        obtain ⟨yu, yn, yt, ym, yp, yks, yh, yc⟩ := y
        dsimp only at *
        generalize hr : decide (xks = yks) = r at *
        have HR : Hid (r = true ↔ xks = yks) := by show _ ↔ _; rw [← hr]; exact decide_eq_true_iff
        have D1 : Hid _ := d1
        clear hr d1
        generalize xks.length = XL at *
        generalize yks.length = YL at *
        by_cases eu : xu = yu
        · subst eu
          by_cases en : xn = yn
          · subst en
            by_cases et : xt = yt
            · subst et
              by_cases em : xm = ym
              · subst em
                by_cases ep : xp = yp
                · subst ep
                  by_cases eh : xh = yh
                  · subst eh
                    by_cases ec : xc = yc
                    · subst ec
                      cases r with
                      | true =>
                        have HT : Hid (∀ i, i < k + 1 → nd S i = nd S' i) := KK.out (by rw [HR.out.1 rfl])
                        go_wp2_with (go_at_call 32; refine (D1.out _ _).mono ?_; rintro e w3 ⟨rfl, hb3⟩)
                        go_roundg (n - (k + 1))
                        case measure => omega
                        case rel => exact ⟨k + 1, by omega, by omega, by go_num, HBW.out _ _ _ hb3, HT⟩
                      | false =>
                        have HF : Hid (S ≠ S') := EK2.out (fun e => by have h := HR.out.2 (congrArg Nd.ks e); cases h)
                        go_wp2_with (go_at_call 32; refine (D1.out _ _).mono ?_; rintro e w3 ⟨rfl, hb3⟩)
                        go_ret
                        first | exact ⟨false, rfl, (two_below _ _ _).trans ((HBW.out _ _ _ hb3).mono (by omega)), ⟨fun h => (by cases h), fun h => absurd h HF.out⟩⟩ | exact Or.inl ⟨rfl, (two_below _ _ _).trans ((HBW.out _ _ _ hb3).mono (by omega)), HF.out⟩
                    · have HF : Hid (S ≠ S') := EK2.out (fun e => ec (congrArg Nd.c e))
                      cases xc <;> cases yc
                      · exact absurd rfl ec
                      · go_wp2
                        go_ret
                        first | exact ⟨false, rfl, HB2.out _ _, ⟨fun h => (by cases h), fun h => absurd h HF.out⟩⟩ | exact Or.inl ⟨rfl, HB2.out _ _, HF.out⟩
                      · go_wp2
                        go_ret
                        first | exact ⟨false, rfl, HB2.out _ _, ⟨fun h => (by cases h), fun h => absurd h HF.out⟩⟩ | exact Or.inl ⟨rfl, HB2.out _ _, HF.out⟩
                      · exact absurd rfl ec
                  · have HF : Hid (S ≠ S') := EK2.out (fun e => eh (congrArg Nd.h e))
                    have bh : (xh == yh) = false := beq_eq_false_iff_ne.2 eh
                    go_wp2
                    go_ret
                    first | exact ⟨false, rfl, HB2.out _ _, ⟨fun h => (by cases h), fun h => absurd h HF.out⟩⟩ | exact Or.inl ⟨rfl, HB2.out _ _, HF.out⟩
                · have HF : Hid (S ≠ S') := EK2.out (fun e => ep (congrArg Nd.p e))
                  have bp : (xp == yp) = false := beq_eq_false_iff_ne.2 ep
                  go_wp2
                  go_ret
                  first | exact ⟨false, rfl, HB2.out _ _, ⟨fun h => (by cases h), fun h => absurd h HF.out⟩⟩ | exact Or.inl ⟨rfl, HB2.out _ _, HF.out⟩
              · have HF : Hid (S ≠ S') := EK2.out (fun e => em (congrArg Nd.m e))
                have bm : (xm == ym) = false := beq_eq_false_iff_ne.2 em
                go_wp2
                go_ret
                first | exact ⟨false, rfl, HB2.out _ _, ⟨fun h => (by cases h), fun h => absurd h HF.out⟩⟩ | exact Or.inl ⟨rfl, HB2.out _ _, HF.out⟩
            · have HF : Hid (S ≠ S') := EK2.out (fun e => et (congrArg Nd.t e))
              have bt : (xt == yt) = false := beq_eq_false_iff_ne.2 et
              go_wp2
              go_ret
              first | exact ⟨false, rfl, HB2.out _ _, ⟨fun h => (by cases h), fun h => absurd h HF.out⟩⟩ | exact Or.inl ⟨rfl, HB2.out _ _, HF.out⟩
          · have HF : Hid (S ≠ S') := EK2.out (fun e => en (congrArg Nd.n e))
            have bn : (xn == yn) = false := beq_eq_false_iff_ne.2 en
            go_wp2
            go_ret
            first | exact ⟨false, rfl, HB2.out _ _, ⟨fun h => (by cases h), fun h => absurd h HF.out⟩⟩ | exact Or.inl ⟨rfl, HB2.out _ _, HF.out⟩
        · have HF : Hid (S ≠ S') := EK2.out (fun e => eu (congrArg Nd.u e))
          cases xu <;> cases yu
          · exact absurd rfl eu
          · go_wp2
            go_ret
            first | exact ⟨false, rfl, HB2.out _ _, ⟨fun h => (by cases h), fun h => absurd h HF.out⟩⟩ | exact Or.inl ⟨rfl, HB2.out _ _, HF.out⟩
          · go_wp2
            go_ret
            first | exact ⟨false, rfl, HB2.out _ _, ⟨fun h => (by cases h), fun h => absurd h HF.out⟩⟩ | exact Or.inl ⟨rfl, HB2.out _ _, HF.out⟩
          · exact absurd rfl eu
      · have : k = n := by omega
        subst this
        go_wp2
        go_ret
        first | exact ⟨true, rfl, HW.out, ⟨fun _ => E1.out A.out, fun _ => rfl⟩⟩ | exact Or.inr ⟨rfl, HW.out, E1.out A.out⟩
  · have hl' : ¬ ((S.length : Int) = (S'.length : Int)) := by omega
    have HNE : Hid (S ≠ S') := fun e => hl (by rw [e])
    clear h1 h2 hB
    generalize S.length = n at *
    generalize S'.length = n' at *
    go_enter Try.func20, Try.ntmps20
    go_wp2
    go_ret
    first | exact ⟨false, rfl, two_below _ _ _, ⟨fun h => (by cases h), fun h => absurd h HNE.out⟩⟩ | exact Or.inl ⟨rfl, two_below _ _ _, HNE.out⟩
end Go.Proofs.Ytjlapfgghljidaa
