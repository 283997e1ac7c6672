/-
  The reference's Attached.
-/
import Derived.Test.YtjlapfgghljidabURpRj
import Derived.Test.YtjlapfgghljidabUTk
import Derived.Test.YtjlapfgghljidabUZf
namespace Go.Proofs.Ytjlapfgghljidab
open Go.RowKit

theorem ratt_low {w w1 : World} {a : Option Addr} {n c : Nat} {p u : Int} (hb : Below (w.heap.size + 1 + 1 + 1 + 1) ((((w.alloc (.cells #[.slice a n c] 24)).alloc (.cells #[.int .i64 p, .int .i64 u] 26)).alloc (.cells #[.slice none 0 0] 24)).alloc (.cells #[.int .i64 0, .int .i64 0] 26)) w1) :
    (w1.cell? ⟨w.heap.size, 0, none⟩ = some (.slice a n c) ∧ w1.cell? ⟨w.heap.size + 1, 0, none⟩ = some (.int .i64 p) ∧ w1.cell? ⟨w.heap.size + 1, 1, none⟩ = some (.int .i64 u) ∧ w1.cell? ⟨w.heap.size + 1 + 1, 0, none⟩ = some (.slice none 0 0) ∧ w1.cell? ⟨w.heap.size + 1 + 1 + 1, 0, none⟩ = some (.int .i64 0) ∧ w1.cell? ⟨w.heap.size + 1 + 1 + 1, 1, none⟩ = some (.int .i64 0)) ∧ ((∀ o, w1.frozen? ⟨w.heap.size, o, none⟩ = false) ∧ (∀ o, w1.frozen? ⟨w.heap.size + 1 + 1, o, none⟩ = false) ∧ (∀ o, w1.frozen? ⟨w.heap.size + 1 + 1 + 1, o, none⟩ = false)) ∧ w.heap.size + 4 ≤ w1.heap.size ∧ Below w.heap.size w w1 := by
  have hs := hb.size
  simp only [World.size_alloc] at hs
  refine ⟨⟨?_, ?_, ?_, ?_, ?_, ?_⟩, ⟨fun o => ?_, fun o => ?_, fun o => ?_⟩, by omega, (four_below _ _ _ _ _).trans (hb.mono (by omega))⟩
  all_goals first | exact (hb.cell (by first | (simp; done) | (simp; omega))).trans (by go_simp) | exact (hb.frozen (by first | (simp; done) | (simp; omega))).trans (by go_simp)

set_option maxHeartbeats 400000 in
theorem attBad_any (E : Int) (w : World) : Calls Try.prog 58 #[.int .i64 E] w fun e w' => e = .returned (.tuple #[.agg #[.slice none 0 0], .agg #[.int .i64 0, .int .i64 0], .int .i64 E]) ∧ Below w.heap.size w w' := by
  go_enter Try.func58, Try.ntmps58
  go_wp2
  refine bodyPost_ret (v := .tuple #[.agg #[.slice none 0 0], .agg #[.int .i64 0, .int .i64 0], .int .i64 E]) (by simp [results, Try.results58, go_sem]) rfl ⟨rfl, ?_⟩
  first
    | exact two_below _ _ _
    | exact (((two_below _ _ _).setCell (by simp) _).setCell (by simp; omega) _).setCell (by simp; omega) _
    | exact ((((two_below _ _ _).setCell (by simp) _).setCell (by simp; omega) _).setCell (by simp; omega) _).drew

set_option maxRecDepth 100000 in
set_option maxHeartbeats 2000000 in
theorem rAtt_err1 (a : Option Addr) (c : Nat) (S : List Nd) (P u E : Int) (cl : Bool) (w : World) (hN : S.length ≤ 9223372036854775807) (hC : RChk a c S) (hS : NdsAt w a S) (hE : tcheckE S [(P, u)] = E) (hE0 : E ≠ 0) :
    Calls Try.prog 28 #[.agg #[.slice a S.length c], .agg #[.int .i64 P, .int .i64 u], .bool cl] w fun e w' => e = .returned (.tuple #[.agg #[.slice none 0 0], .agg #[.int .i64 0, .int .i64 0], .int .i64 E]) ∧ Below w.heap.size w w' := by
  have df := fun (W : World) (ha : Option Addr) (hW : NdsAt W a S) (hH : HandsAt W ha [(P, u)]) => rFirst_any a c S ha 1 [(P, u)] W (by omega) hC hW (by simp) hH
  rw [hE] at df
  have DF : Hid _ := df
  have HS : Hid (NdsAt w a S) := hS
  have DB : Hid _ := attBad_any
  clear hS hC df hE
  have hz : (E == 0) = false := by simp [hE0]
  have hz2 : decide (E = 0) = false := decide_eq_false hE0
  generalize S.length = n at *
  go_enter Try.func28, Try.ntmps28
  go_wp2_with fail
  refine Calls.mono (DF.out _ _ (HS.out.below ((four_below _ _ _ _ _).alloc (by simp; omega) _)) (hands_one _ _ _ _ (by go_simp) (by go_simp))) ?_
  rintro e w1 ⟨rfl, hb1⟩
  have hb2 : Below (w.heap.size + 1 + 1 + 1 + 1) ((((w.alloc (.cells #[.slice a n c] 24)).alloc (.cells #[.int .i64 P, .int .i64 u] 26)).alloc (.cells #[.slice none 0 0] 24)).alloc (.cells #[.int .i64 0, .int .i64 0] 26)) w1 := (by have h := ((Below.refl (w.heap.size + 1 + 1 + 1 + 1) ((((w.alloc (.cells #[.slice a n c] 24)).alloc (.cells #[.int .i64 P, .int .i64 u] 26)).alloc (.cells #[.slice none 0 0] 24)).alloc (.cells #[.int .i64 0, .int .i64 0] 26))).alloc (by simp) _).trans (hb1.mono (by simp)); exact h)
  obtain ⟨⟨l0, l1, l2, l3, l4, l5⟩, ⟨z0, z2, z3⟩, hsz, hB1⟩ := ratt_low hb2
  have HB1 : Hid _ := hb2
  clear hb1 hb2 hB1
  go_wp2_with fail
  refine Calls.mono (DB.out _ _) ?_
  rintro e wb ⟨rfl, hbb⟩
  have HBb : Hid (Below (w.heap.size + 1 + 1 + 1 + 1) ((((w.alloc (.cells #[.slice a n c] 24)).alloc (.cells #[.int .i64 P, .int .i64 u] 26)).alloc (.cells #[.slice none 0 0] 24)).alloc (.cells #[.int .i64 0, .int .i64 0] 26)) wb) := HB1.out.trans (hbb.mono (by omega))
  clear hbb
  obtain ⟨⟨m0, m1, m2, m3, m4, m5⟩, ⟨y0, y2, y3⟩, hszb, hBb⟩ := ratt_low HBb.out
  have q2 : w.heap.size + 1 + 1 < wb.heap.size := by omega
  have q3 : w.heap.size + 1 + 1 + 1 < wb.heap.size := by omega
  have HBc : Hid _ := hBb
  clear hBb
  go_wp2_with fail
  refine bodyPost_ret (v := .tuple #[.agg #[.slice none 0 0], .agg #[.int .i64 0, .int .i64 0], .int .i64 E]) (by simp only [results, Try.results28]; go_simp) rfl ⟨rfl, ?_⟩
  first
    | exact ((HBc.out.setCell (by simp; omega) _).setCell (by simp; omega) _).setCell (by simp; omega) _
    | exact (((HBc.out.setCell (by simp; omega) _).setCell (by simp; omega) _).setCell (by simp; omega) _).drew

set_option maxRecDepth 100000 in
set_option maxHeartbeats 2000000 in
theorem rAtt_err2 (a : Option Addr) (c : Nat) (S : List Nd) (P u E : Int) (cl : Bool) (w : World) (hN : S.length ≤ 24) (hC : RChk a c S) (hS : NdsAt w a S) (hE : tcheckE S [(P, u)] = 0) (k1 : Nat) (hk1 : k1 < S.length) (hh1 : (nd S k1).h = P) (hE6 : E = 6) :
    Calls Try.prog 28 #[.agg #[.slice a S.length c], .agg #[.int .i64 P, .int .i64 u], .bool cl] w fun e w' => e = .returned (.tuple #[.agg #[.slice none 0 0], .agg #[.int .i64 0, .int .i64 0], .int .i64 E]) ∧ Below w.heap.size w w' := by
  subst hE6
  have df := fun (W : World) (ha : Option Addr) (hW : NdsAt W a S) (hH : HandsAt W ha [(P, u)]) => rFirst_any a c S ha 1 [(P, u)] W (by omega) hC hW (by simp) hH
  rw [hE] at df
  have DF : Hid _ := df
  have HS : Hid (NdsAt w a S) := hS
  have DB : Hid _ := attBad_any
  clear hS hC df hE
  obtain ⟨n, hn⟩ : ∃ n, S.length = n := ⟨_, rfl⟩
  have HN : Hid (S.length = n) := hn
  have HK1 : Hid ((nd S k1).h = P) := hh1
  rw [hn] at hN hk1 DF ⊢
  clear hn hh1
  go_enter Try.func28, Try.ntmps28
  go_wp2_with fail
  refine Calls.mono (DF.out _ _ (HS.out.below ((four_below _ _ _ _ _).alloc (by simp; omega) _)) (hands_one _ _ _ _ (by go_simp) (by go_simp))) ?_
  rintro e w1 ⟨rfl, hb1⟩
  have hb2 : Below (w.heap.size + 1 + 1 + 1 + 1) ((((w.alloc (.cells #[.slice a n c] 24)).alloc (.cells #[.int .i64 P, .int .i64 u] 26)).alloc (.cells #[.slice none 0 0] 24)).alloc (.cells #[.int .i64 0, .int .i64 0] 26)) w1 := (by have h := ((Below.refl (w.heap.size + 1 + 1 + 1 + 1) ((((w.alloc (.cells #[.slice a n c] 24)).alloc (.cells #[.int .i64 P, .int .i64 u] 26)).alloc (.cells #[.slice none 0 0] 24)).alloc (.cells #[.int .i64 0, .int .i64 0] 26))).alloc (by simp) _).trans (hb1.mono (by simp)); exact h)
  obtain ⟨⟨l0, l1, l2, l3, l4, l5⟩, ⟨z0, z2, z3⟩, hsz, hB1⟩ := ratt_low hb2
  have HB1 : Hid _ := hb2
  clear hb1 hb2 hB1
  go_wp2_with fail
  go_loopg [30] n (fun gg s30 wr => ∃ q : Nat, q ≤ n ∧ n - q ≤ gg ∧ s30 = .int .i64 q ∧ Hid (Below (w.heap.size + 1 + 1 + 1 + 1) ((((w.alloc (.cells #[.slice a n c] 24)).alloc (.cells #[.int .i64 P, .int .i64 u] 26)).alloc (.cells #[.slice none 0 0] 24)).alloc (.cells #[.int .i64 0, .int .i64 0] 26)) wr) ∧ Hid (∀ i, i < q → (nd S i).h ≠ P))
  case atStart => exact ⟨0, by omega, by omega, rfl, HB1, (show Hid _ from fun i hi => absurd hi (Nat.not_lt_zero _))⟩
  case round =>
    clear l0 l1 l2 l3 l4 l5 z0 z2 z3 HB1 hsz DF
    obtain ⟨q, hq, hgg, rfl, HB, AA⟩ := hrel
    obtain ⟨⟨l0, l1, l2, l3, l4, l5⟩, ⟨z0, z2, z3⟩, hsz, hBw⟩ := ratt_low HB.out
    have HBw : Hid _ := hBw
    clear hBw
    have hz0 : w.heap.size < wr.heap.size := by omega
    have hz1 : w.heap.size + 1 < wr.heap.size := by omega
    have hz2 : w.heap.size + 1 + 1 < wr.heap.size := by omega
    have hz3 : w.heap.size + 1 + 1 + 1 < wr.heap.size := by omega
    by_cases hqn : q < n
    · have hqn2 : (q : Int) < (n : Int) := by omega
      obtain ⟨nb, no, rfl, c0, c1, c2, c3, c4, ⟨ka, kc, c5, _⟩, c6, c7⟩ := (HS.out.below HBw.out) q (by rw [HN.out]; exact hqn)
      have hnb := World.block_lt_of_cell? _ _ c0
      by_cases hh : (nd S q).h = P
      · clear AA
        generalize (nd S q).ks.length = L at *
        obtain ⟨x, hx⟩ : ∃ x, nd S q = x := ⟨_, rfl⟩
        rw [hx] at c0 c1 c2 c3 c4 c6 c7 hh
        clear hx
        obtain ⟨xu, xn, xt, xm, xp, xks, xh, xc⟩ := x
        dsimp only at c0 c1 c2 c3 c4 c6 c7 hh
        subst hh
        go_wp2_with fail
        refine Calls.mono (DB.out _ _) ?_
        rintro e wb ⟨rfl, hbb⟩
        have HBb : Hid (Below (w.heap.size + 1 + 1 + 1 + 1) ((((w.alloc (.cells #[.slice (some ⟨nb, no, none⟩) n c] 24)).alloc (.cells #[.int .i64 xh, .int .i64 u] 26)).alloc (.cells #[.slice none 0 0] 24)).alloc (.cells #[.int .i64 0, .int .i64 0] 26)) wb) := (HB.out.alloc (by omega) _).trans (hbb.mono (by simp; omega))
        clear hbb
        obtain ⟨⟨m0, m1, m2, m3, m4, m5⟩, ⟨y0, y2, y3⟩, hszb, hBb⟩ := ratt_low HBb.out
        have q2 : w.heap.size + 1 + 1 < wb.heap.size := by omega
        have q3 : w.heap.size + 1 + 1 + 1 < wb.heap.size := by omega
        have HBc : Hid _ := hBb
        clear hBb
        go_wp2_with fail
        refine bodyPost_ret (v := .tuple #[.agg #[.slice none 0 0], .agg #[.int .i64 0, .int .i64 0], .int .i64 6]) (by simp only [results, Try.results28]; go_simp) rfl ⟨rfl, ?_⟩
        first
          | exact ((HBc.out.setCell (by simp; omega) _).setCell (by simp; omega) _).setCell (by simp; omega) _
          | exact (((HBc.out.setCell (by simp; omega) _).setCell (by simp; omega) _).setCell (by simp; omega) _).drew
      · have A2 : Hid (∀ i, i < q + 1 → (nd S i).h ≠ P) := fun i hi => by
          by_cases e : i = q
          · rw [e]; exact hh
          · exact AA.out i (by omega)
        clear AA
        generalize (nd S q).ks.length = L at *
        obtain ⟨x, hx⟩ : ∃ x, nd S q = x := ⟨_, rfl⟩
        rw [hx] at c0 c1 c2 c3 c4 c6 c7 hh
        clear hx
        obtain ⟨xu, xn, xt, xm, xp, xks, xh, xc⟩ := x
        dsimp only at c0 c1 c2 c3 c4 c6 c7 hh
        have hh2 : (xh == P) = false := beq_eq_false_iff_ne.2 hh
        have hh3 : decide (xh = P) = false := decide_eq_false hh
        go_wp2_with fail
        go_roundg (n - (q + 1))
        case measure => omega
        case rel =>
          exact ⟨q + 1, by omega, by omega, by go_num, HB.out.alloc (by omega) _, A2⟩
    · exact absurd HK1.out (AA.out k1 (by omega))

set_option maxRecDepth 100000 in
set_option maxHeartbeats 4000000 in
theorem rAtt_err3 (a : Option Addr) (c : Nat) (S : List Nd) (P u E : Int) (cl : Bool) (w : World) (hN : S.length ≤ 24) (hC : RChk a c S) (hS : NdsAt w a S) (hE : tcheckE S [(P, u)] = 0) (hh1 : ∀ i, i < S.length → (nd S i).h ≠ P) (hM : ∀ W, NdsAt W a S → Calls Try.prog 59 #[.agg #[.slice a S.length c], .int .i64 0] W fun e w' => e = .returned (.tuple #[.agg #[.slice none 0 0], .agg #[.int .i64 0, .int .i64 0], .int .i64 E]) ∧ Below W.heap.size W w') (hE0 : E ≠ 0) :
    Calls Try.prog 28 #[.agg #[.slice a S.length c], .agg #[.int .i64 P, .int .i64 u], .bool cl] w fun e w' => e = .returned (.tuple #[.agg #[.slice none 0 0], .agg #[.int .i64 0, .int .i64 0], .int .i64 E]) ∧ Below w.heap.size w w' := by
  have df := fun (W : World) (ha : Option Addr) (hW : NdsAt W a S) (hH : HandsAt W ha [(P, u)]) => rFirst_any a c S ha 1 [(P, u)] W (by omega) hC hW (by simp) hH
  rw [hE] at df
  have DF : Hid _ := df
  have HS : Hid (NdsAt w a S) := hS
  have DB : Hid _ := attBad_any
  have DM : Hid _ := hM
  clear hS hC df hE
  obtain ⟨n, hn⟩ : ∃ n, S.length = n := ⟨_, rfl⟩
  have HN : Hid (S.length = n) := hn
  have HH1 : Hid _ := hh1
  have ez : (E == 0) = false := by simp [hE0]
  have ez2 : decide (E = 0) = false := decide_eq_false hE0
  clear hM hh1
  rw [hn] at hN DF DM HH1 ⊢
  clear hn
  go_enter Try.func28, Try.ntmps28
  go_wp2_with fail
  refine Calls.mono (DF.out _ _ (HS.out.below ((four_below _ _ _ _ _).alloc (by simp; omega) _)) (hands_one _ _ _ _ (by go_simp) (by go_simp))) ?_
  rintro e w1 ⟨rfl, hb1⟩
  have hb2 : Below (w.heap.size + 1 + 1 + 1 + 1) ((((w.alloc (.cells #[.slice a n c] 24)).alloc (.cells #[.int .i64 P, .int .i64 u] 26)).alloc (.cells #[.slice none 0 0] 24)).alloc (.cells #[.int .i64 0, .int .i64 0] 26)) w1 := (by have h := ((Below.refl (w.heap.size + 1 + 1 + 1 + 1) ((((w.alloc (.cells #[.slice a n c] 24)).alloc (.cells #[.int .i64 P, .int .i64 u] 26)).alloc (.cells #[.slice none 0 0] 24)).alloc (.cells #[.int .i64 0, .int .i64 0] 26))).alloc (by simp) _).trans (hb1.mono (by simp)); exact h)
  obtain ⟨⟨l0, l1, l2, l3, l4, l5⟩, ⟨z0, z2, z3⟩, hsz, hB1⟩ := ratt_low hb2
  have HB1 : Hid _ := hb2
  clear hb1 hb2 hB1
  go_wp2_with fail
  go_loopg [30] n (fun gg s30 wr => ∃ q : Nat, q ≤ n ∧ n - q ≤ gg ∧ s30 = .int .i64 q ∧ Hid (Below (w.heap.size + 1 + 1 + 1 + 1) ((((w.alloc (.cells #[.slice a n c] 24)).alloc (.cells #[.int .i64 P, .int .i64 u] 26)).alloc (.cells #[.slice none 0 0] 24)).alloc (.cells #[.int .i64 0, .int .i64 0] 26)) wr) ∧ Hid (∀ i, i < q → (nd S i).h ≠ P))
  case atStart => exact ⟨0, by omega, by omega, rfl, HB1, (show Hid _ from fun i hi => absurd hi (Nat.not_lt_zero _))⟩
  case round =>
    clear l0 l1 l2 l3 l4 l5 z0 z2 z3 HB1 hsz DF
    obtain ⟨q, hq, hgg, rfl, HB, AA⟩ := hrel
    obtain ⟨⟨l0, l1, l2, l3, l4, l5⟩, ⟨z0, z2, z3⟩, hsz, hBw⟩ := ratt_low HB.out
    have HBw : Hid _ := hBw
    clear hBw
    have hz0 : w.heap.size < wr.heap.size := by omega
    have hz1 : w.heap.size + 1 < wr.heap.size := by omega
    have hz2 : w.heap.size + 1 + 1 < wr.heap.size := by omega
    have hz3 : w.heap.size + 1 + 1 + 1 < wr.heap.size := by omega
    by_cases hqn : q < n
    · have hqn2 : (q : Int) < (n : Int) := by omega
      obtain ⟨nb, no, rfl, c0, c1, c2, c3, c4, ⟨ka, kc, c5, _⟩, c6, c7⟩ := (HS.out.below HBw.out) q (by rw [HN.out]; exact hqn)
      have hnb := World.block_lt_of_cell? _ _ c0
      have hh := HH1.out q hqn
      have A2 : Hid (∀ i, i < q + 1 → (nd S i).h ≠ P) := fun i hi => HH1.out i (by omega)
      clear AA
      generalize (nd S q).ks.length = L at *
      obtain ⟨x, hx⟩ : ∃ x, nd S q = x := ⟨_, rfl⟩
      rw [hx] at c0 c1 c2 c3 c4 c6 c7 hh
      clear hx
      obtain ⟨xu, xn, xt, xm, xp, xks, xh, xc⟩ := x
      dsimp only at c0 c1 c2 c3 c4 c6 c7 hh
      have hh2 : (xh == P) = false := beq_eq_false_iff_ne.2 hh
      have hh3 : decide (xh = P) = false := decide_eq_false hh
      go_wp2_with fail
      go_roundg (n - (q + 1))
      case measure => omega
      case rel =>
        exact ⟨q + 1, by omega, by omega, by go_num, HB.out.alloc (by omega) _, A2⟩
    · clear AA
      go_wp2_with fail
      refine Calls.mono (DM.out _ (HS.out.below HBw.out)) ?_
      rintro e w4 ⟨rfl, hb4⟩
      have HB4 : Hid (Below (w.heap.size + 1 + 1 + 1 + 1) ((((w.alloc (.cells #[.slice a n c] 24)).alloc (.cells #[.int .i64 P, .int .i64 u] 26)).alloc (.cells #[.slice none 0 0] 24)).alloc (.cells #[.int .i64 0, .int .i64 0] 26)) w4) := HB.out.trans (hb4.mono (by omega))
      clear hb4 l0 l1 l2 l3 l4 l5 z0 z2 z3 hz0 hz1 hz2 hz3
      obtain ⟨⟨l0, l1, l2, l3, l4, l5⟩, ⟨z0, z2, z3⟩, hsz4, hBw4⟩ := ratt_low HB4.out
      have HBw4 : Hid _ := hBw4
      clear hBw4
      have hz0 : w.heap.size < w4.heap.size := by omega
      have hz2 : w.heap.size + 1 + 1 < w4.heap.size := by omega
      have hz3 : w.heap.size + 1 + 1 + 1 < w4.heap.size := by omega
      go_wp2_with fail
      refine Calls.mono (DB.out _ _) ?_
      rintro e wb ⟨rfl, hbb⟩
      have hbb2 : Below w4.heap.size ((w4.setCell ⟨w.heap.size, 0, none⟩ (.slice none 0 0)).alloc (.cells #[.int .i64 0, .int .i64 0] 26)) wb := hbb.mono (by simp)
      have hs5 := hbb2.size
      simp only [World.size_alloc, World.size_setCell] at hs5
      have m3 : wb.cell? ⟨w.heap.size + 1 + 1, 0, none⟩ = some (.slice none 0 0) := (hbb2.cell (by show w.heap.size + 1 + 1 < _; omega)).trans (by go_simp)
      have m4 : wb.cell? ⟨w.heap.size + 1 + 1 + 1, 0, none⟩ = some (.int .i64 0) := (hbb2.cell (by show w.heap.size + 1 + 1 + 1 < _; omega)).trans (by go_simp)
      have m5 : wb.cell? ⟨w.heap.size + 1 + 1 + 1, 1, none⟩ = some (.int .i64 0) := (hbb2.cell (by show w.heap.size + 1 + 1 + 1 < _; omega)).trans (by go_simp)
      have y2 : ∀ o, wb.frozen? ⟨w.heap.size + 1 + 1, o, none⟩ = false := fun o => (hbb2.frozen (by show w.heap.size + 1 + 1 < _; omega)).trans (by go_simp)
      have y3 : ∀ o, wb.frozen? ⟨w.heap.size + 1 + 1 + 1, o, none⟩ = false := fun o => (hbb2.frozen (by show w.heap.size + 1 + 1 + 1 < _; omega)).trans (by go_simp)
      have HBc : Hid (Below w.heap.size w wb) := ((HBw4.out.setCell (by simp) _).alloc (by simp; omega) _).trans (hbb2.mono (by omega))
      have q2 : w.heap.size + 1 + 1 < wb.heap.size := by omega
      have q3 : w.heap.size + 1 + 1 + 1 < wb.heap.size := by omega
      clear hbb hbb2 l0 l1 l2 l3 l4 l5 z0 z2 z3
      go_wp2_with fail
      refine bodyPost_ret (v := .tuple #[.agg #[.slice none 0 0], .agg #[.int .i64 0, .int .i64 0], .int .i64 E]) (by simp only [results, Try.results28]; go_simp) rfl ⟨rfl, ?_⟩
      first
        | exact ((HBc.out.setCell (by simp; omega) _).setCell (by simp; omega) _).setCell (by simp; omega) _
        | exact (((HBc.out.setCell (by simp; omega) _).setCell (by simp; omega) _).setCell (by simp; omega) _).drew

set_option maxRecDepth 100000 in
set_option maxHeartbeats 4000000 in
theorem rAtt_st (a : Option Addr) (c : Nat) (S : List Nd) (k : Nat) (P u : Int) (cl : Bool) (w : World) (hP : P = (k : Int)) (hN : S.length ≤ 24) (hC : RChk a c S) (hS : NdsAt w a S) (hE : tcheckE S [(P, u)] = 0) (hh1 : ∀ i, i < S.length → (nd S i).h ≠ P) (f : Nat) (hf : f < S.length) (hM : ∀ W, NdsAt W a S → Calls Try.prog 59 #[.agg #[.slice a S.length c], .int .i64 0] W fun e w' => ∃ g cap K, e = .returned (.tuple #[.agg #[.slice (some ⟨g, 0, none⟩) S.length cap], .agg #[.int .i64 (f : Int), .int .i64 ((nd S f).n + 1)], .int .i64 0]) ∧ Below W.heap.size W w' ∧ OwnK (W.heap.size + 3) (S.set f (madeNd (nd S f) 0)) S.length K (.slice (some ⟨g, 0, none⟩) S.length cap) w') :
    Calls Try.prog 28 #[.agg #[.slice a S.length c], .agg #[.int .i64 P, .int .i64 u], .bool cl] w fun e w' => ∃ a' c', e = .returned (.tuple #[.agg #[.slice a' S.length c'], .agg #[.int .i64 (f : Int), .int .i64 ((nd S f).n + 1)], .int .i64 0]) ∧ Below w.heap.size w w' ∧ ∀ w3 : World, (∀ b, w.heap.size ≤ b → w3.heap[b]? = w'.heap[b]?) → NdsAt w3 a' (S.set f (rootNd (nd S f) k cl)) := by
  have df := fun (W : World) (ha : Option Addr) (hW : NdsAt W a S) (hH : HandsAt W ha [(P, u)]) => rFirst_any a c S ha 1 [(P, u)] W (by omega) hC hW (by simp) hH
  rw [hE] at df
  have DF : Hid _ := df
  have HS : Hid (NdsAt w a S) := hS
  have DB : Hid _ := attBad_any
  have DM : Hid _ := hM
  clear hS hC df hE
  obtain ⟨n, hn⟩ : ∃ n, S.length = n := ⟨_, rfl⟩
  have HN : Hid (S.length = n) := hn
  have HH1 : Hid _ := hh1
  have PUT : Hid (∀ B K g cap W, OwnK B (S.set f (madeNd (nd S f) 0)) S.length K (.slice (some ⟨g, 0, none⟩) S.length cap) W → OwnK B (S.set f (rootNd (nd S f) k cl)) S.length K (.slice (some ⟨g, 0, none⟩) S.length cap) ((W.setCell ⟨g, f * 8 + 6, none⟩ (.int .i64 P)).setCell ⟨g, f * 8 + 7, none⟩ (.bool cl))) := fun B K g cap W h => by
    have p1 := h.put1 (k := f) (j := 6) (u := .int .i64 P) hf (by rw [List.length_set]) (by omega) { madeNd (nd S f) 0 with h := P } (fun v j' hj' => by
      rw [nd_set S f f _ hf, if_pos rfl]
      match j', hj' with
      | 0, _ | 1, _ | 2, _ | 3, _ | 4, _ | 5, _ | 6, _ | 7, _ => rfl) (by rw [nd_set S f f _ hf, if_pos rfl])
    have p2 := p1.put1 (k := f) (j := 7) (u := .bool cl) hf (by rw [List.length_set, List.length_set]) (by omega) { madeNd (nd S f) 0 with h := P, c := cl } (fun v j' hj' => by
      rw [nd_set _ f f _ (by rw [List.length_set]; exact hf), if_pos rfl]
      match j', hj' with
      | 0, _ | 1, _ | 2, _ | 3, _ | 4, _ | 5, _ | 6, _ | 7, _ => rfl) (by rw [nd_set _ f f _ (by rw [List.length_set]; exact hf), if_pos rfl])
    rw [List.set_set, List.set_set] at p2
    rw [hP] at p2 ⊢
    exact p2
  clear hM hh1 hP
  obtain ⟨S1, hS1⟩ : ∃ S1, S.set f (madeNd (nd S f) 0) = S1 := ⟨_, rfl⟩
  obtain ⟨S2, hS2⟩ : ∃ S2, S.set f (rootNd (nd S f) k cl) = S2 := ⟨_, rfl⟩
  have HL2 : Hid (S2.length = n) := (by rw [← hS2, List.length_set, hn] : S2.length = n)
  rw [hS1] at DM PUT
  rw [hS2] at PUT ⊢
  clear hS1 hS2
  generalize (nd S f).n = nf at *
  rw [hn] at hN hf DF DM HH1 PUT ⊢
  clear hn
  go_enter Try.func28, Try.ntmps28
  go_wp2_with fail
  refine Calls.mono (DF.out _ _ (HS.out.below ((four_below _ _ _ _ _).alloc (by simp; omega) _)) (hands_one _ _ _ _ (by go_simp) (by go_simp))) ?_
  rintro e w1 ⟨rfl, hb1⟩
  have hb2 : Below (w.heap.size + 1 + 1 + 1 + 1) ((((w.alloc (.cells #[.slice a n c] 24)).alloc (.cells #[.int .i64 P, .int .i64 u] 26)).alloc (.cells #[.slice none 0 0] 24)).alloc (.cells #[.int .i64 0, .int .i64 0] 26)) w1 := (by have h := ((Below.refl (w.heap.size + 1 + 1 + 1 + 1) ((((w.alloc (.cells #[.slice a n c] 24)).alloc (.cells #[.int .i64 P, .int .i64 u] 26)).alloc (.cells #[.slice none 0 0] 24)).alloc (.cells #[.int .i64 0, .int .i64 0] 26))).alloc (by simp) _).trans (hb1.mono (by simp)); exact h)
  obtain ⟨⟨l0, l1, l2, l3, l4, l5⟩, ⟨z0, z2, z3⟩, hsz, hB1⟩ := ratt_low hb2
  have HB1 : Hid _ := hb2
  clear hb1 hb2 hB1
  go_wp2_with fail
  go_loopg [30] n (fun gg s30 wr => ∃ q : Nat, q ≤ n ∧ n - q ≤ gg ∧ s30 = .int .i64 q ∧ Hid (Below (w.heap.size + 1 + 1 + 1 + 1) ((((w.alloc (.cells #[.slice a n c] 24)).alloc (.cells #[.int .i64 P, .int .i64 u] 26)).alloc (.cells #[.slice none 0 0] 24)).alloc (.cells #[.int .i64 0, .int .i64 0] 26)) wr) ∧ Hid (∀ i, i < q → (nd S i).h ≠ P))
  case atStart => exact ⟨0, by omega, by omega, rfl, HB1, (show Hid _ from fun i hi => absurd hi (Nat.not_lt_zero _))⟩
  case round =>
    clear l0 l1 l2 l3 l4 l5 z0 z2 z3 HB1 hsz DF
    obtain ⟨q, hq, hgg, rfl, HB, AA⟩ := hrel
    obtain ⟨⟨l0, l1, l2, l3, l4, l5⟩, ⟨z0, z2, z3⟩, hsz, hBw⟩ := ratt_low HB.out
    have HBw : Hid _ := hBw
    clear hBw
    have hz0 : w.heap.size < wr.heap.size := by omega
    have hz1 : w.heap.size + 1 < wr.heap.size := by omega
    have hz2 : w.heap.size + 1 + 1 < wr.heap.size := by omega
    have hz3 : w.heap.size + 1 + 1 + 1 < wr.heap.size := by omega
    by_cases hqn : q < n
    · have hqn2 : (q : Int) < (n : Int) := by omega
      obtain ⟨nb, no, rfl, c0, c1, c2, c3, c4, ⟨ka, kc, c5, _⟩, c6, c7⟩ := (HS.out.below HBw.out) q (by rw [HN.out]; exact hqn)
      have hnb := World.block_lt_of_cell? _ _ c0
      have hh := HH1.out q hqn
      have A2 : Hid (∀ i, i < q + 1 → (nd S i).h ≠ P) := fun i hi => HH1.out i (by omega)
      clear AA
      generalize (nd S q).ks.length = L at *
      obtain ⟨x, hx⟩ : ∃ x, nd S q = x := ⟨_, rfl⟩
      rw [hx] at c0 c1 c2 c3 c4 c6 c7 hh
      clear hx
      obtain ⟨xu, xn, xt, xm, xp, xks, xh, xc⟩ := x
      dsimp only at c0 c1 c2 c3 c4 c6 c7 hh
      have hh2 : (xh == P) = false := beq_eq_false_iff_ne.2 hh
      have hh3 : decide (xh = P) = false := decide_eq_false hh
      go_wp2_with fail
      go_roundg (n - (q + 1))
      case measure => omega
      case rel =>
        exact ⟨q + 1, by omega, by omega, by go_num, HB.out.alloc (by omega) _, A2⟩
    · clear AA
      go_wp2_with fail
      refine Calls.mono (DM.out _ (HS.out.below HBw.out)) ?_
      rintro e w4 ⟨g, cap, K, rfl, hb4, hO4⟩
      have HB4 : Hid (Below (w.heap.size + 1 + 1 + 1 + 1) ((((w.alloc (.cells #[.slice a n c] 24)).alloc (.cells #[.int .i64 P, .int .i64 u] 26)).alloc (.cells #[.slice none 0 0] 24)).alloc (.cells #[.int .i64 0, .int .i64 0] 26)) w4) := HB.out.trans (hb4.mono (by omega))
      have hg4 := hO4.1.lt g rfl
      have hcap : n ≤ cap ∧ cap ≤ 9223372036854775807 := by
        rcases hO4.1.2 with ⟨h, _⟩ | ⟨g', cap', cur, h, _, _, h3, h4, _⟩
        · cases h
        · cases h; exact ⟨h3, by unfold maxLen at h4; omega⟩
      have d6 := hO4.cellAt (i := f) (j := 6) hf (by omega)
      have d7 := hO4.cellAt (i := f) (j := 7) hf (by omega)
      have e6 : ∃ v6, w4.cell? ⟨g, f * 8 + 6, none⟩ = some v6 := ⟨_, d6⟩
      have e7 : ∃ v7, w4.cell? ⟨g, f * 8 + 7, none⟩ = some v7 := ⟨_, d7⟩
      obtain ⟨v6, e6⟩ := e6
      obtain ⟨v7, e7⟩ := e7
      have fz : ∀ o, w4.frozen? ⟨g, o, none⟩ = false := fun o => hO4.frozenAt o
      have HO4 : Hid (OwnK (wr.heap.size + 3) S1 n K (.slice (some ⟨g, 0, none⟩) n cap) w4) := hO4
      have hgw : w.heap.size + 4 ≤ g := by omega
      clear hb4 l0 l1 l2 l3 l4 l5 z0 z2 z3 hz0 hz1 hz2 hz3 d6 d7 hO4
      obtain ⟨⟨l0, l1, l2, l3, l4, l5⟩, ⟨z0, z2, z3⟩, hsz4, hBw4⟩ := ratt_low HB4.out
      have HBw4 : Hid _ := hBw4
      clear hBw4
      have hz0 : w.heap.size < w4.heap.size := by omega
      have hz1 : w.heap.size + 1 < w4.heap.size := by omega
      have hz2 : w.heap.size + 1 + 1 < w4.heap.size := by omega
      have hz3 : w.heap.size + 1 + 1 + 1 < w4.heap.size := by omega
      have hgl : g < w4.heap.size := hg4.2
      have n0 : ¬ g = w.heap.size := by omega
      have n0' : ¬ w.heap.size = g := by omega
      have n1 : ¬ g = w.heap.size + 1 := by omega
      have n1' : ¬ w.heap.size + 1 = g := by omega
      have n2 : ¬ g = w.heap.size + 1 + 1 := by omega
      have n2' : ¬ w.heap.size + 1 + 1 = g := by omega
      have n3 : ¬ g = w.heap.size + 1 + 1 + 1 := by omega
      have n3' : ¬ w.heap.size + 1 + 1 + 1 = g := by omega
      have hf2 : (f : Int) < (n : Int) := by omega
      have hf3 : decide ((f : Int) < 0) = false := decide_eq_false (by omega)
      clear hg4
      go_wp2_with fail
      obtain ⟨W6, hW6⟩ : ∃ W6, W6 = (((w4.setCell ⟨w.heap.size, 0, none⟩ (.slice (some ⟨g, 0, none⟩) n cap)).setCell ⟨g, f * 8 + 6, none⟩ (.int .i64 P)).setCell ⟨g, f * 8 + 7, none⟩ (.bool cl)).alloc (.cells #[.int .i64 (f : Int), .int .i64 (nf + 1)] 26) := ⟨_, rfl⟩
      rw [← hW6]
      have HR6 : Hid (OwnK (wr.heap.size + 3) S2 n K (.slice (some ⟨g, 0, none⟩) n cap) W6) := by
        rw [hW6]
        exact (PUT.out _ _ _ _ _ (HO4.out.other (fun b hb _ => Below.heap_setCell _ _ _ _ (by show b ≠ w.heap.size; omega)))).other (fun b _ hlt => ((Below.refl _ _).alloc (Nat.le_refl _) _).block b hlt)
      have hs6 : W6.heap.size = w4.heap.size + 1 := by rw [hW6]; simp
      have HB6 : Hid (Below w.heap.size w W6) := by
        rw [hW6]
        exact (((HBw4.out.setCell (by simp) _).setCell (by simp; omega) _).setCell (by simp; omega) _).alloc (by simp; omega) _
      have x0 : W6.cell? ⟨w.heap.size, 0, none⟩ = some (.slice (some ⟨g, 0, none⟩) n cap) := by rw [hW6]; go_simp
      have x1 : W6.cell? ⟨w4.heap.size, 0, none⟩ = some (.int .i64 (f : Int)) := by rw [hW6]; go_simp
      have x2 : W6.cell? ⟨w4.heap.size, 1, none⟩ = some (.int .i64 (nf + 1)) := by rw [hW6]; go_simp
      have x3 : W6.cell? ⟨w.heap.size + 1 + 1, 0, none⟩ = some (.slice none 0 0) := by rw [hW6]; go_simp
      have x4 : W6.cell? ⟨w.heap.size + 1 + 1 + 1, 0, none⟩ = some (.int .i64 0) := by rw [hW6]; go_simp
      have x5 : W6.cell? ⟨w.heap.size + 1 + 1 + 1, 1, none⟩ = some (.int .i64 0) := by rw [hW6]; go_simp
      have x6 : ∀ o, W6.frozen? ⟨w.heap.size + 1 + 1, o, none⟩ = false := fun o => by rw [hW6]; go_simp
      have x7 : ∀ o, W6.frozen? ⟨w.heap.size + 1 + 1 + 1, o, none⟩ = false := fun o => by rw [hW6]; go_simp
      have t0 : w.heap.size < W6.heap.size := by omega
      have t1 : w4.heap.size < W6.heap.size := by omega
      have t2 : w.heap.size + 1 + 1 < W6.heap.size := by omega
      have t3 : w.heap.size + 1 + 1 + 1 < W6.heap.size := by omega
      have t5 : ¬ w4.heap.size = w.heap.size + 1 + 1 := by omega
      have t6 : ¬ w4.heap.size = w.heap.size + 1 + 1 + 1 := by omega
      clear hW6 l0 l1 l2 l3 l4 l5 z0 z2 z3 e6 e7 fz HO4 HB4 HBw4 PUT
      go_region
      all_goals (try go_wp2)
      all_goals
        refine bodyPost_ret (v := .tuple #[.agg #[.slice (some ⟨g, 0, none⟩) n cap], .agg #[.int .i64 (f : Int), .int .i64 (nf + 1)], .int .i64 0]) (by simp [results, Try.results28, go_sem, x3, x4, x5]) rfl ⟨some ⟨g, 0, none⟩, cap, rfl, ?_, ?_⟩
        · first
            | exact (((HB6.out.setCell (by simp; omega) _).setCell (by simp; omega) _).setCell (by simp; omega) _).drew
            | exact ((HB6.out.setCell (by simp; omega) _).setCell (by simp; omega) _).setCell (by simp; omega) _
        · intro w3 hw3
          refine (HR6.out.other (fun b hb hlt => (hw3 b (by omega)).trans ?_)).ndsAt HL2.out
          first
            | rw [heap_drew, Below.heap_setCell _ _ _ _ (by show b ≠ w.heap.size + 1 + 1 + 1; omega), Below.heap_setCell _ _ _ _ (by show b ≠ w.heap.size + 1 + 1 + 1; omega), Below.heap_setCell _ _ _ _ (by show b ≠ w.heap.size + 1 + 1; omega)]
            | rw [Below.heap_setCell _ _ _ _ (by show b ≠ w.heap.size + 1 + 1 + 1; omega), Below.heap_setCell _ _ _ _ (by show b ≠ w.heap.size + 1 + 1 + 1; omega), Below.heap_setCell _ _ _ _ (by show b ≠ w.heap.size + 1 + 1; omega)]

theorem rAtt_ok (a : Option Addr) (c : Nat) (S : List Nd) (k : Nat) (P u : Int) (cl : Bool) (w : World) (hP : P = (k : Int)) (hN : S.length ≤ 24) (hC : RChk a c S) (hS : NdsAt w a S) (hE : tcheckE S [(P, u)] = 0) (hh1 : ∀ i, i < S.length → (nd S i).h ≠ P) (f : Nat) (hf : f < S.length) (hM : ∀ W, NdsAt W a S → Calls Try.prog 59 #[.agg #[.slice a S.length c], .int .i64 0] W fun e w' => ∃ g cap K, e = .returned (.tuple #[.agg #[.slice (some ⟨g, 0, none⟩) S.length cap], .agg #[.int .i64 (f : Int), .int .i64 ((nd S f).n + 1)], .int .i64 0]) ∧ Below W.heap.size W w' ∧ OwnK (W.heap.size + 3) (S.set f (madeNd (nd S f) 0)) S.length K (.slice (some ⟨g, 0, none⟩) S.length cap) w') :
    Calls Try.prog 28 #[.agg #[.slice a S.length c], .agg #[.int .i64 P, .int .i64 u], .bool cl] w fun e w' => ∃ a' c', e = .returned (.tuple #[.agg #[.slice a' S.length c'], .agg #[.int .i64 (f : Int), .int .i64 ((nd S f).n + 1)], .int .i64 0]) ∧ Below w.heap.size w w' ∧ NdsAt w' a' (S.set f (rootNd (nd S f) k cl)) :=
  (rAtt_st a c S k P u cl w hP hN hC hS hE hh1 f hf hM).mono fun _ w' ⟨a', c', e1, hb, hn⟩ => ⟨a', c', e1, hb, hn w' (fun _ _ => rfl)⟩
end Go.Proofs.Ytjlapfgghljidab
