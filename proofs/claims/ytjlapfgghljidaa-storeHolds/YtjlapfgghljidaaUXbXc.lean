/-
  The contracts of Free.
-/
import Derived.Test.YtjlapfgghljidaaUXaXd
import Derived.Deep.RegionWith
import Derived.Test.YtjlapfgghljidaaUTn
import Derived.Deep.RegionHeld3
namespace Go.Proofs.Ytjlapfgghljidaa
open Go.RowKit

/-- A node without children laid into a store of the call's own. -/
theorem Own.nil8 {w : World} {B g : Nat} {S : List Nd} {kb kc : Nat → Nat} {k : Nat} (h : Own w B g S kb kc S.length) (hk : k < S.length) (x : Nd) (hx : x.ks = []) (w3 : World)
    (hup : ∀ b, g ≤ b → b < w.heap.size → w3.heap[b]? = ((((((((w.setCell ⟨g, k * 8, none⟩ (.bool x.u)).setCell ⟨g, k * 8 + 1, none⟩ (.int .i64 x.n)).setCell ⟨g, k * 8 + 2, none⟩ (.int .i64 x.t)).setCell ⟨g, k * 8 + 3, none⟩ (.int .i64 x.m)).setCell ⟨g, k * 8 + 4, none⟩ (.int .i64 x.p)).setCell ⟨g, k * 8 + 5, none⟩ (.slice none 0 0)).setCell ⟨g, k * 8 + 6, none⟩ (.int .i64 x.h)).setCell ⟨g, k * 8 + 7, none⟩ (.bool x.c)).heap[b]?) :
    NdsAt w3 (some ⟨g, 0, none⟩) (S.set k x) := fun i hi => by
  obtain ⟨_, F, hF, hN, hg, _⟩ := h
  rw [List.length_set] at hi
  have hR := (row_set8 hF (k * 8) (.bool x.u) (.int .i64 x.n) (.int .i64 x.t) (.int .i64 x.m) (.int .i64 x.p) (.slice none 0 0) (.int .i64 x.h) (.bool x.c)).of_block (hup g (Nat.le_refl _) hF.lt)
  refine ⟨g, 0, rfl, ?_⟩
  rw [Nat.zero_add, nd_set S k i x hk]
  by_cases e : i = k
  · subst e
    rw [if_pos rfl]
    refine ⟨?_, ?_, ?_, ?_, ?_, ⟨none, 0, ?_, fun j hj => absurd hj (by rw [hx]; exact Nat.not_lt_zero _)⟩, ?_, ?_⟩
    · rw [hR.cell (by omega)]; unfold put8; rw [if_neg (by omega), if_neg (by omega), if_neg (by omega), if_neg (by omega), if_neg (by omega), if_neg (by omega), if_neg (by omega), if_pos rfl]
    · rw [hR.cell (by omega)]; unfold put8; rw [if_neg (by omega), if_neg (by omega), if_neg (by omega), if_neg (by omega), if_neg (by omega), if_neg (by omega), if_pos rfl]
    · rw [hR.cell (by omega)]; unfold put8; rw [if_neg (by omega), if_neg (by omega), if_neg (by omega), if_neg (by omega), if_neg (by omega), if_pos rfl]
    · rw [hR.cell (by omega)]; unfold put8; rw [if_neg (by omega), if_neg (by omega), if_neg (by omega), if_neg (by omega), if_pos rfl]
    · rw [hR.cell (by omega)]; unfold put8; rw [if_neg (by omega), if_neg (by omega), if_neg (by omega), if_pos rfl]
    · rw [hR.cell (by omega), hx]; unfold put8; rw [if_neg (by omega), if_neg (by omega), if_pos rfl]; rfl
    · rw [hR.cell (by omega)]; unfold put8; rw [if_neg (by omega), if_pos rfl]
    · rw [hR.cell (by omega)]; unfold put8; rw [if_pos rfl]
  · rw [if_neg e]
    have hgi := hg i hi
    obtain ⟨e0, e1, e2, e3, e4, e5, e6, e7, e8, e8b, G, hG0, e9⟩ := hN i hi
    have hgn : kb i ≠ g := by omega
    have hG := hG0.of_block (w' := w3) ((hup (kb i) (Nat.le_of_lt hgi) hG0.lt).trans (by
      rw [Below.heap_setCell _ _ _ _ hgn, Below.heap_setCell _ _ _ _ hgn, Below.heap_setCell _ _ _ _ hgn, Below.heap_setCell _ _ _ _ hgn, Below.heap_setCell _ _ _ _ hgn, Below.heap_setCell _ _ _ _ hgn, Below.heap_setCell _ _ _ _ hgn, Below.heap_setCell _ _ _ _ hgn]))
    refine ⟨?_, ?_, ?_, ?_, ?_, ⟨some ⟨kb i, 0, none⟩, kc i, ?_, fun j hj => ⟨kb i, 0, rfl, ?_⟩⟩, ?_, ?_⟩
    · rw [hR.cell (by omega), put8_other (by omega), e0]
    · rw [hR.cell (by omega), put8_other (by omega), e1]
    · rw [hR.cell (by omega), put8_other (by omega), e2]
    · rw [hR.cell (by omega), put8_other (by omega), e3]
    · rw [hR.cell (by omega), put8_other (by omega), e4]
    · rw [hR.cell (by omega), put8_other (by omega), e5]
    · rw [Nat.zero_add, hG.cell (by omega), e9 j hj]
    · rw [hR.cell (by omega), put8_other (by omega), e6]
    · rw [hR.cell (by omega), put8_other (by omega), e7]

theorem free_low {w w1 : World} {v : Value} {x y : Int} (hb : Below (w.heap.size + 1 + 1 + 1) (((w.alloc (.cells #[v] 24)).alloc (.cells #[.int .i64 x, .int .i64 y] 26)).alloc (.cells #[.slice none 0 0] 24)) w1) :
    w1.cell? ⟨w.heap.size, 0, none⟩ = some v ∧ w1.cell? ⟨w.heap.size + 1, 0, none⟩ = some (.int .i64 x) ∧ w1.cell? ⟨w.heap.size + 1, 1, none⟩ = some (.int .i64 y) ∧ w1.cell? ⟨w.heap.size + 1 + 1, 0, none⟩ = some (.slice none 0 0) ∧ w1.frozen? ⟨w.heap.size + 1 + 1, 0, none⟩ = false :=
  ⟨(hb.cell (by simp; omega)).trans (by go_simp), (hb.cell (by simp)).trans (by go_simp), (hb.cell (by simp)).trans (by go_simp), (hb.cell (by simp)).trans (by go_simp), (hb.frozen (by simp)).trans (by go_simp)⟩

theorem free_mid {B : Nat} {W w1 w2 : World} {a0 a1 a2 a3 a4 a5 a6 a7 : Value} (hb1 : Below B W w1) (hs : B ≤ w1.heap.size) (hb2 : Below (w1.heap.size + 1) (w1.alloc (.cells #[a0, a1, a2, a3, a4, a5, a6, a7] 35)) w2) :
    Below B W w2 ∧ w2.cell? ⟨w1.heap.size, 0, none⟩ = some a0 ∧ w2.cell? ⟨w1.heap.size, 1, none⟩ = some a1 ∧ w2.cell? ⟨w1.heap.size, 2, none⟩ = some a2 ∧ w2.cell? ⟨w1.heap.size, 3, none⟩ = some a3 ∧ w2.cell? ⟨w1.heap.size, 4, none⟩ = some a4 ∧ w2.cell? ⟨w1.heap.size, 5, none⟩ = some a5 ∧ w2.cell? ⟨w1.heap.size, 6, none⟩ = some a6 ∧ w2.cell? ⟨w1.heap.size, 7, none⟩ = some a7 :=
  ⟨(hb1.alloc hs _).trans (hb2.mono (by omega)), (hb2.cell (by simp)).trans (by go_simp), (hb2.cell (by simp)).trans (by go_simp), (hb2.cell (by simp)).trans (by go_simp), (hb2.cell (by simp)).trans (by go_simp), (hb2.cell (by simp)).trans (by go_simp), (hb2.cell (by simp)).trans (by go_simp), (hb2.cell (by simp)).trans (by go_simp), (hb2.cell (by simp)).trans (by go_simp)⟩

set_option maxHeartbeats 1000000 in
theorem free_err (a : Option Addr) (c : Nat) (S : List Nd) (p u E : Int) (w : World) (hN : S.length ≤ 9223372036854775807) (hB : Big S) (hS : NdsAt w a S) (hE : findE S p u = E) (hE0 : E ≠ 0) :
    Calls Try.prog 13 #[.agg #[.slice a S.length c], .agg #[.int .i64 p, .int .i64 u]] w fun e w' => e = .returned (.tuple #[.agg #[.slice none 0 0], .int .i64 E]) ∧ Below w.heap.size w w' := by
  have D1 : Hid (∀ W, NdsAt W a S → Calls _ _ _ _ _) := fun W hW => find_err a c S p u E W hN hB hW hE hE0
  have HS : Hid (NdsAt w a S) := hS
  have hz : (E == 0) = false := by simp [hE0]
  clear hS hE hB hN
  generalize S.length = n at *
  go_enter Try.func13, Try.ntmps13
  go_wp2_with (go_at_call 12; refine (D1.out _ (HS.out.below (three_below _ _ _ _))).mono ?_; rintro e w1 ⟨rfl, hb1⟩; simp only [World.size_alloc] at hb1; obtain ⟨l0, l1, l2, l3, z3⟩ := free_low hb1; have hs1 := hb1.size; simp only [World.size_alloc] at hs1; have q0 : w.heap.size < w1.heap.size := (by omega); have q1 : w.heap.size + 1 < w1.heap.size := (by omega); have q2 : w.heap.size + 1 + 1 < w1.heap.size := (by omega))
  refine bodyPost_ret (v := .tuple #[.agg #[.slice none 0 0], .int .i64 E]) (by simp only [results, Try.results13]; go_simp) rfl ⟨rfl, ?_⟩
  have hbo : Below w.heap.size w w1 := (three_below _ _ _ _).trans (hb1.mono (by omega))
  first | exact (hbo.setCell (by simp; omega) _).alloc (by simp; omega) _ | exact (hbo.alloc (by omega) _).setCell (by simp; omega) _ | exact hbo.setCell (by simp; omega) _

set_option maxHeartbeats 2000000 in
theorem free_tree (a : Option Addr) (c : Nat) (S : List Nd) (k : Nat) (u : Int) (w : World) (hN : S.length ≤ 9223372036854775807) (hB : Big S) (hS : NdsAt w a S) (hk : k < S.length) (hF : findE S k u = 0) (hK : (nd S k).ks.length ≤ 1000000) (hT : ¬ looseB S k) :
    Calls Try.prog 13 #[.agg #[.slice a S.length c], .agg #[.int .i64 k, .int .i64 u]] w fun e w' => e = .returned (.tuple #[.agg #[.slice none 0 0], .int .i64 6]) ∧ Below w.heap.size w w' := by
  have D1 : Hid (∀ W, NdsAt W a S → Calls _ _ _ _ _) := fun W hW => find_ok a c S k u W (by omega) hB hW hk hF hK
  obtain ⟨r, hr⟩ : ∃ r, rightUnder (nd S k) = r := ⟨_, rfl⟩
  obtain ⟨hb0, hhb⟩ : ∃ b, hostB S k = b := ⟨_, rfl⟩
  have d2 := fun (v : Value) W => rightUnder_any (nd S k) v W
  rw [show (if (nd S k).h = -1 then (nd S k).p else (nd S k).h) = r from hr] at d2
  have D2 : Hid _ := d2
  have d3 := fun W hW => isHost_any a c S (k : Int) W (by omega) hW (by omega)
  rw [hhb] at d3
  have D3 : Hid _ := d3
  have HS : Hid (NdsAt w a S) := hS
  have hT2 : r ≠ -1 ∨ (r = -1 ∧ (nd S k).ks.length ≠ 0) ∨ (r = -1 ∧ (nd S k).ks.length = 0 ∧ hb0 = true) := by
    unfold looseB at hT
    rw [hr, hhb] at hT
    by_cases h1 : r = -1
    · by_cases h2 : (nd S k).ks = []
      · refine Or.inr (Or.inr ⟨h1, by rw [h2]; rfl, ?_⟩)
        cases hb0 with
        | true => rfl
        | false => exact absurd ⟨h1, h2, rfl⟩ hT
      · refine Or.inr (Or.inl ⟨h1, fun h => h2 (List.length_eq_zero_iff.1 h)⟩)
    · exact Or.inl h1
  clear hS d2 d3 hF hB hT hr hhb
  generalize nd S k = x at *
  obtain ⟨xu, xn, xt, xm, xp, xks, xh, xc⟩ := x
  dsimp only at *
  generalize xks.length = L at *
  generalize S.length = n at *
  rcases hT2 with h1 | ⟨rfl, h2⟩ | ⟨rfl, rfl, rfl⟩
  · have hz : (r == -1) = false := by simp [h1]
    go_enter Try.func13, Try.ntmps13
    go_wp2_with (go_at_call 12; refine (D1.out _ (HS.out.below (three_below _ _ _ _))).mono ?_; rintro e w1 ⟨kg, rfl, hb1, hkg⟩; clear hkg; simp only [World.size_alloc] at hb1; obtain ⟨l0, l1, l2, l3, z3⟩ := free_low hb1; have hs1 := hb1.size; simp only [World.size_alloc] at hs1; have q0 : w.heap.size < w1.heap.size := (by omega); have q1 : w.heap.size + 1 < w1.heap.size := (by omega); have q2 : w.heap.size + 1 + 1 < w1.heap.size := (by omega))
    refine (D2.out _ _).mono ?_
    rintro e w2 ⟨rfl, hb2⟩
    simp only [World.size_alloc] at hb2
    obtain ⟨hb12, n0, n1, n2, n3, n4, n5, n6, n7⟩ := free_mid hb1 hs1 hb2
    have hs2 := hb2.size
    simp only [World.size_alloc] at hs2
    clear l0 l1 l2 l3 z3
    obtain ⟨l0, l1, l2, l3, z3⟩ := free_low hb12
    have HBO : Hid (Below w.heap.size w w2) := (three_below _ _ _ _).trans (hb12.mono (by omega))
    have HB1 : Hid _ := hb1
    have HB2 : Hid _ := hb2
    have q3 : w1.heap.size < w2.heap.size := by omega
    clear hb1 hb2 hb12
    go_wp2
    refine bodyPost_ret (v := .tuple #[.agg #[.slice none 0 0], .int .i64 6]) (by simp only [results, Try.results13]; go_simp) rfl ⟨rfl, ?_⟩
    first | exact HBO.out.setCell (by simp; omega) _ | exact (HBO.out.setCell (by simp; omega) _).drew | exact (HBO.out.alloc (by simp; omega) _).setCell (by simp; omega) _ | exact (HBO.out.setCell (by simp; omega) _).alloc (by simp; omega) _
  · have hz : decide ((0 : Int) < (L : Int)) = true := decide_eq_true (by omega)
    have hz2 : (0 : Int) < (L : Int) := by omega
    go_enter Try.func13, Try.ntmps13
    go_wp2_with (go_at_call 12; refine (D1.out _ (HS.out.below (three_below _ _ _ _))).mono ?_; rintro e w1 ⟨kg, rfl, hb1, hkg⟩; clear hkg; simp only [World.size_alloc] at hb1; obtain ⟨l0, l1, l2, l3, z3⟩ := free_low hb1; have hs1 := hb1.size; simp only [World.size_alloc] at hs1; have q0 : w.heap.size < w1.heap.size := (by omega); have q1 : w.heap.size + 1 < w1.heap.size := (by omega); have q2 : w.heap.size + 1 + 1 < w1.heap.size := (by omega))
    refine (D2.out _ _).mono ?_
    rintro e w2 ⟨rfl, hb2⟩
    simp only [World.size_alloc] at hb2
    obtain ⟨hb12, n0, n1, n2, n3, n4, n5, n6, n7⟩ := free_mid hb1 hs1 hb2
    have hs2 := hb2.size
    simp only [World.size_alloc] at hs2
    clear l0 l1 l2 l3 z3
    obtain ⟨l0, l1, l2, l3, z3⟩ := free_low hb12
    have HBO : Hid (Below w.heap.size w w2) := (three_below _ _ _ _).trans (hb12.mono (by omega))
    have HB1 : Hid _ := hb1
    have HB2 : Hid _ := hb2
    have q3 : w1.heap.size < w2.heap.size := by omega
    clear hb1 hb2 hb12
    go_wp2
    refine bodyPost_ret (v := .tuple #[.agg #[.slice none 0 0], .int .i64 6]) (by simp only [results, Try.results13]; go_simp) rfl ⟨rfl, ?_⟩
    first | exact HBO.out.setCell (by simp; omega) _ | exact (HBO.out.setCell (by simp; omega) _).drew | exact (HBO.out.alloc (by simp; omega) _).setCell (by simp; omega) _ | exact (HBO.out.setCell (by simp; omega) _).alloc (by simp; omega) _
  · go_enter Try.func13, Try.ntmps13
    go_wp2_with (go_at_call 12; refine (D1.out _ (HS.out.below (three_below _ _ _ _))).mono ?_; rintro e w1 ⟨kg, rfl, hb1, hkg⟩; clear hkg; simp only [World.size_alloc] at hb1; obtain ⟨l0, l1, l2, l3, z3⟩ := free_low hb1; have hs1 := hb1.size; simp only [World.size_alloc] at hs1; have q0 : w.heap.size < w1.heap.size := (by omega); have q1 : w.heap.size + 1 < w1.heap.size := (by omega); have q2 : w.heap.size + 1 + 1 < w1.heap.size := (by omega))
    refine (D2.out _ _).mono ?_
    rintro e w2 ⟨rfl, hb2⟩
    simp only [World.size_alloc] at hb2
    obtain ⟨hb12, n0, n1, n2, n3, n4, n5, n6, n7⟩ := free_mid hb1 hs1 hb2
    have hs2 := hb2.size
    simp only [World.size_alloc] at hs2
    clear l0 l1 l2 l3 z3
    obtain ⟨l0, l1, l2, l3, z3⟩ := free_low hb12
    have HBO : Hid (Below w.heap.size w w2) := (three_below _ _ _ _).trans (hb12.mono (by omega))
    have HB1 : Hid _ := hb1
    have HB2 : Hid _ := hb2
    have q3 : w1.heap.size < w2.heap.size := by omega
    clear hb1 hb2 hb12
    go_wp2_with fail
    refine (D3.out _ (HS.out.below HBO.out)).mono ?_
    rintro e w3 ⟨rfl, hb3⟩
    have hs3 := hb3.size
    have HBO3 : Hid (Below w.heap.size w w3) := HBO.out.trans (hb3.mono (by have := HBO.out.size; omega))
    have hb23 := HB2.out.trans (hb3.mono hs2)
    clear l0 l1 l2 l3 z3 n0 n1 n2 n3 n4 n5 n6 n7 hb3 HB2
    obtain ⟨hb13, n0, n1, n2, n3, n4, n5, n6, n7⟩ := free_mid HB1.out hs1 hb23
    obtain ⟨l0, l1, l2, l3, z3⟩ := free_low hb13
    have r1 : w1.heap.size < w3.heap.size := by omega
    have r2 : w.heap.size < w3.heap.size := by omega
    have r3 : w.heap.size + 1 < w3.heap.size := by omega
    have r4 : w.heap.size + 1 + 1 < w3.heap.size := by omega
    have HB23 : Hid _ := hb23
    clear hb13 hb23
    go_wp2
    refine bodyPost_ret (v := .tuple #[.agg #[.slice none 0 0], .int .i64 6]) (by simp only [results, Try.results13]; go_simp) rfl ⟨rfl, ?_⟩
    first | exact HBO3.out.setCell (by simp; omega) _ | exact (HBO3.out.setCell (by simp; omega) _).drew | exact (HBO3.out.alloc (by simp; omega) _).setCell (by simp; omega) _ | exact (HBO3.out.setCell (by simp; omega) _).alloc (by simp; omega) _

end Go.Proofs.Ytjlapfgghljidaa

namespace Go.Proofs.Ytjlapfgghljidaa
open Go.RowKit

set_option maxHeartbeats 4000000 in
theorem free_ok (a : Option Addr) (c : Nat) (S : List Nd) (k : Nat) (u : Int) (w : World) (hN : S.length ≤ 24) (hB : ∀ i, i < S.length → (nd S i).ks.length ≤ 1000) (hS : NdsAt w a S) (hk : k < S.length) (hF : findE S k u = 0) (hT : looseB S k) :
    Calls Try.prog 13 #[.agg #[.slice a S.length c], .agg #[.int .i64 k, .int .i64 u]] w fun e w' => ∃ g, e = .returned (.tuple #[.agg #[.slice (some ⟨g, 0, none⟩) S.length S.length], .int .i64 0]) ∧ Below w.heap.size w w' ∧ w.heap.size ≤ g ∧ ∀ w3 : World, (∀ b, g ≤ b → w3.heap[b]? = w'.heap[b]?) → NdsAt w3 (some ⟨g, 0, none⟩) (S.set k (freedNd (nd S k))) := by
  have hK := Nat.le_trans (hB k hk) (show 1000 ≤ 1000000 by omega)
  have dc := fun (W : World) (hW : NdsAt W a S) => copy_any a c S W hN hB hW
  have DC : Hid _ := dc
  replace hB : Big S := fun i hi => Nat.le_trans (hB i hi) (by omega)
  have D1 : Hid (∀ W, NdsAt W a S → Calls _ _ _ _ _) := fun W hW => find_ok a c S k u W (by omega) hB hW hk hF hK
  obtain ⟨r, hr⟩ : ∃ r, rightUnder (nd S k) = r := ⟨_, rfl⟩
  obtain ⟨hb0, hhb⟩ : ∃ b, hostB S k = b := ⟨_, rfl⟩
  have d2 := fun (v : Value) W => rightUnder_any (nd S k) v W
  rw [show (if (nd S k).h = -1 then (nd S k).p else (nd S k).h) = r from hr] at d2
  have D2 : Hid _ := d2
  have d3 := fun W hW => isHost_any a c S (k : Int) W (by omega) hW (by omega)
  rw [hhb] at d3
  have D3 : Hid _ := d3
  have HS : Hid (NdsAt w a S) := hS
  have N8 : Hid (∀ (w w3 : World) (B g : Nat) (kb kc : Nat → Nat), Own w B g S kb kc S.length → _ → NdsAt w3 (some ⟨g, 0, none⟩) (S.set k (freedNd (nd S k)))) := fun w w3 B g kb kc h hup => Own.nil8 h hk (freedNd (nd S k)) rfl w3 hup
  have OC : Hid (∀ (wr : World) (B g : Nat) (kb kc : Nat → Nat), Own wr B g S kb kc S.length → (g < wr.heap.size ∧ (∀ o, wr.frozen? ⟨g, o, none⟩ = false) ∧ (∃ v0 v1 v2 v3 v4 v5 v6 v7, wr.cell? ⟨g, k * 8, none⟩ = some v0 ∧ wr.cell? ⟨g, k * 8 + 1, none⟩ = some v1 ∧ wr.cell? ⟨g, k * 8 + 2, none⟩ = some v2 ∧ wr.cell? ⟨g, k * 8 + 3, none⟩ = some v3 ∧ wr.cell? ⟨g, k * 8 + 4, none⟩ = some v4 ∧ wr.cell? ⟨g, k * 8 + 5, none⟩ = some v5 ∧ wr.cell? ⟨g, k * 8 + 6, none⟩ = some v6 ∧ wr.cell? ⟨g, k * 8 + 7, none⟩ = some v7))) := fun wr B g kb kc h => by
    obtain ⟨_, F, hF, hNd, _⟩ := h
    exact ⟨hF.lt, hF.frozen, _, _, _, _, _, _, _, _, hF.cell (by omega), hF.cell (by omega), hF.cell (by omega), hF.cell (by omega), hF.cell (by omega), hF.cell (by omega), hF.cell (by omega), hF.cell (by omega)⟩
  obtain ⟨t1, t2, t3⟩ := hT
  rw [hr] at t1
  rw [hhb] at t3
  subst t1 t3
  have t4 : (nd S k).ks.length = 0 := by rw [t2]; rfl
  have hk2 : (k : Int) < (S.length : Int) := by omega
  have hk3 : decide ((k : Int) < 0) = false := decide_eq_false (by omega)
  unfold freedNd at N8 ⊢
  clear hS d2 d3 dc hF hB hr hhb t2 hK
  generalize hx : nd S k = x at *
  clear hx
  obtain ⟨xu, xn, xt, xm, xp, xks, xh, xc⟩ := x
  dsimp only at *
  generalize xks.length = L at *
  subst t4
  generalize hn : S.length = n at *
  clear hn
  go_enter Try.func13, Try.ntmps13
  go_wp2_with (go_at_call 12; refine (D1.out _ (HS.out.below (three_below _ _ _ _))).mono ?_; rintro e w1 ⟨kg, rfl, hb1, hkg⟩; clear hkg; simp only [World.size_alloc] at hb1; obtain ⟨l0, l1, l2, l3, z3⟩ := free_low hb1; have hs1 := hb1.size; simp only [World.size_alloc] at hs1; have q0 : w.heap.size < w1.heap.size := (by omega); have q1 : w.heap.size + 1 < w1.heap.size := (by omega); have q2 : w.heap.size + 1 + 1 < w1.heap.size := (by omega))
  refine (D2.out _ _).mono ?_
  rintro e w2 ⟨rfl, hb2⟩
  simp only [World.size_alloc] at hb2
  obtain ⟨hb12, n0, n1, n2, n3, n4, n5, n6, n7⟩ := free_mid hb1 hs1 hb2
  have hs2 := hb2.size
  simp only [World.size_alloc] at hs2
  clear l0 l1 l2 l3 z3
  obtain ⟨l0, l1, l2, l3, z3⟩ := free_low hb12
  have HBO : Hid (Below w.heap.size w w2) := (three_below _ _ _ _).trans (hb12.mono (by omega))
  have HB1 : Hid _ := hb1
  have HB2 : Hid _ := hb2
  have q3 : w1.heap.size < w2.heap.size := by omega
  clear hb1 hb2 hb12
  go_wp2_with fail
  refine (D3.out _ (HS.out.below HBO.out)).mono ?_
  rintro e w3 ⟨rfl, hb3⟩
  have hs3 := hb3.size
  have HBO3 : Hid (Below w.heap.size w w3) := HBO.out.trans (hb3.mono (by have := HBO.out.size; omega))
  have hb23 := HB2.out.trans (hb3.mono hs2)
  clear l0 l1 l2 l3 z3 n0 n1 n2 n3 n4 n5 n6 n7 hb3 HB2
  obtain ⟨hb13, n0, n1, n2, n3, n4, n5, n6, n7⟩ := free_mid HB1.out hs1 hb23
  obtain ⟨l0, l1, l2, l3, z3⟩ := free_low hb13
  have r1 : w1.heap.size < w3.heap.size := by omega
  have r2 : w.heap.size < w3.heap.size := by omega
  have r3 : w.heap.size + 1 < w3.heap.size := by omega
  have r4 : w.heap.size + 1 + 1 < w3.heap.size := by omega
  have HB23 : Hid _ := hb23
  clear hb13 hb23
  go_wp2_with fail
  refine (DC.out _ (HS.out.below HBO3.out)).mono ?_
  rintro e w4 ⟨g, kb, kc, rfl, hb4, hO4⟩
  have hg : w3.heap.size ≤ g := hO4.1
  have hs34 : w1.heap.size + 1 ≤ w3.heap.size := by omega
  have hb24 := HB23.out.trans (hb4.mono hs34)
  have hs4 := hb4.size
  have HBO4 : Hid (Below w.heap.size w w4) := HBO3.out.trans (hb4.mono (by have := HBO3.out.size; omega))
  clear l0 l1 l2 l3 z3 n0 n1 n2 n3 n4 n5 n6 n7 HB23
  obtain ⟨hb14, n0, n1, n2, n3, n4, n5, n6, n7⟩ := free_mid HB1.out hs1 hb24
  obtain ⟨l0, l1, l2, l3, z3⟩ := free_low hb14
  obtain ⟨hglt, hfz, v0, v1, v2, v3, v4, v5, v6, v7, d0, d1, d2, d3, d4, d5, d6, d7⟩ := OC.out _ _ _ _ _ hO4
  have hgge : w1.heap.size < g := by omega
  have HO4 : Hid (Own w4 w3.heap.size g S kb kc n) := hO4
  have HB14 : Hid _ := hb14
  clear hb14 hb24 hO4 hb4 hg
  go_wp2_with fail
  have t1 : w1.heap.size < w4.heap.size := by omega
  obtain ⟨W5, hW5⟩ : ∃ W5, W5 = w4.alloc (Obj.cells #[Value.slice (some ⟨g, 0, none⟩) n n] 24) := ⟨_, rfl⟩
  rw [← hW5]
  have k8 : W5.cell? ⟨w4.heap.size, 0, none⟩ = some (.slice (some ⟨g, 0, none⟩) n n) := by rw [hW5]; go_simp
  have k9 : W5.cell? ⟨w1.heap.size, 1, none⟩ = some (.int .i64 xn) := by rw [hW5]; go_simp
  have hsz : W5.heap.size = w4.heap.size + 1 := by rw [hW5]; simp
  have hbl : Below w4.heap.size w4 W5 := by rw [hW5]; exact (Below.refl _ _).alloc (Nat.le_refl _) _
  have hb5 := HB14.out.trans (hbl.mono (by have := HB14.out.size; simp at this; omega))
  have HBO5 : Hid (Below w.heap.size w W5) := HBO4.out.trans (hbl.mono HBO4.out.size)
  have HO5 : Hid (Own W5 w3.heap.size g S kb kc n) := Own.below HO4.out hbl
  clear l0 l1 l2 l3 z3 n0 n1 n2 n3 n4 n5 n6 n7 d0 d1 d2 d3 d4 d5 d6 d7 hfz HO4 HB14 hW5 hbl
  obtain ⟨l0, l1, l2, l3, z3⟩ := free_low hb5
  obtain ⟨_, hfz, v0', v1', v2', v3', v4', v5', v6', v7', d0, d1, d2, d3, d4, d5, d6, d7⟩ := OC.out _ _ _ _ _ HO5.out
  have u1 : w4.heap.size < W5.heap.size := by omega
  have u2 : w1.heap.size < W5.heap.size := by omega
  have u3 : w.heap.size + 1 < W5.heap.size := by omega
  have u4 : w.heap.size + 1 + 1 < W5.heap.size := by omega
  have u5 : g < W5.heap.size := by omega
  have u6 : w.heap.size + 1 + 1 < g := by omega
  have HSZ : Hid (W5.heap.size = w4.heap.size + 1) := hsz
  clear hb5 hsz
  have ne1 := World.new_ne W5 _ k8
  have ne2 := World.new_ne W5 _ k9
  have ne3 := World.new_ne W5 _ l1
  have e1 : ¬ g = w4.heap.size := by omega
  have e2 : ¬ w4.heap.size = g := by omega
  have e3 : ¬ g = w.heap.size + 1 := by omega
  have e4 : ¬ w.heap.size + 1 = g := by omega
  have e5 : ¬ g = w1.heap.size := by omega
  have e6 : ¬ w1.heap.size = g := by omega
  clear HBO4 HBO3 HBO HB1 HS D1 D2 D3 DC OC
  go_region_held3 (fun w'' => w''.cell? ⟨w4.heap.size, 0, none⟩ = some (.slice (some ⟨g, 0, none⟩) n n) ∧ w''.cell? ⟨w.heap.size + 1, 0, none⟩ = some (.int .i64 k) ∧ w''.cell? ⟨w1.heap.size, 1, none⟩ = some (.int .i64 xn)) (go_keep) (first | (go_at_call 39; refine (unused_any _ _).mono ?_; rintro e w' ⟨rfl, rfl⟩))
  all_goals (try go_wp2)
  all_goals
    refine bodyPost_ret (v := .tuple #[.agg #[.slice (some ⟨g, 0, none⟩) n n], .int .i64 0]) (by simp only [results, Try.results13]; go_simp) rfl ⟨g, rfl, ?_, by omega, fun w3 hup => ?_⟩
    · first
        | exact ((((((((((HBO5.out.setCell (by simp; omega) _).setCell (by simp; omega) _).setCell (by simp; omega) _).setCell (by simp; omega) _).setCell (by simp; omega) _).setCell (by simp; omega) _).setCell (by simp; omega) _).setCell (by simp; omega) _).setCell (by simp; omega) _).alloc (by simp; omega) _).drew
        | exact ((((((((((HBO5.out.setCell (by simp; omega) _).setCell (by simp; omega) _).setCell (by simp; omega) _).setCell (by simp; omega) _).setCell (by simp; omega) _).setCell (by simp; omega) _).setCell (by simp; omega) _).setCell (by simp; omega) _).alloc (by simp; omega) _).setCell (by simp; omega) _).drew
    · refine N8.out W5 w3 _ g kb kc HO5.out (fun b hb hlt => (hup b hb).trans ?_)
      first
        | (rw [heap_drew, ((Below.refl _ _).alloc (Nat.le_refl _) _).block b (by simpa using hlt), Below.heap_setCell _ _ _ _ (by show b ≠ w.heap.size + 1 + 1; omega)])
        | (rw [heap_drew, Below.heap_setCell _ _ _ _ (by show b ≠ w.heap.size + 1 + 1; omega), ((Below.refl _ _).alloc (Nat.le_refl _) _).block b (by simpa using hlt)])
end Go.Proofs.Ytjlapfgghljidaa
