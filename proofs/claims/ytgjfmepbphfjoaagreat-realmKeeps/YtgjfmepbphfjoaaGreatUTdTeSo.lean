/-
  The contracts of New, of the search for a place, and of Make where there is one.
-/
import Derived.Test.YtgjfmepbphfjoaaGreatUTbTcTfSn
namespace Go.Proofs.YtgjfmepbphfjoaaGreat
open Go.RowKit

set_option maxHeartbeats 400000 in
theorem free_place (x : Nd) (k : Value) (w : World) :
    Calls Tryz.prog 123 #[.agg #[.bool x.u, .int .i64 x.n, .int .i64 x.t, .int .i64 x.m, .int .i64 x.p, k, .int .i64 x.h, .bool x.c]] w fun e w' => e = .returned (.bool (!x.u && decide (x.n < 1000000))) ∧ Below w.heap.size w w' := by
  obtain ⟨u, n, t, m, p, ks, h, c⟩ := x
  dsimp only
  cases u
  · by_cases hn : n < 1000000
    · have hd : (!false && decide (n < 1000000)) = true := by simp [hn]
      rw [hd]
      clear hd
      go_enter Tryz.func123, Tryz.ntmps123
      go_wp2
      go_ret
      exact ⟨rfl, (Below.refl _ _).alloc (Nat.le_refl _) _⟩
    · have hd : (!false && decide (n < 1000000)) = false := by simp [hn]
      rw [hd]
      clear hd
      go_enter Tryz.func123, Tryz.ntmps123
      go_wp2
      go_ret
      exact ⟨rfl, (Below.refl _ _).alloc (Nat.le_refl _) _⟩
  · go_enter Tryz.func123, Tryz.ntmps123
    go_wp2
    go_ret
    exact ⟨rfl, (Below.refl _ _).alloc (Nat.le_refl _) _⟩

def freeB (x : Nd) : Bool := !x.u && decide (x.n < 1000000)

set_option maxHeartbeats 400000 in
theorem firstFree_at (a : Option Addr) (c : Nat) (S : List Nd) (w : World) (hn : S.length ≤ 9223372036854775807) (hS : NdsAt w a S) (k : Nat) (hk : k < S.length) (hf : freeB (nd S k) = true) (hall : ∀ i, i < k → freeB (nd S i) = false) :
    Calls Tryz.prog 122 #[.slice a S.length c, .func (.func 123) #[] #[]] w fun e w' => e = .returned (.int .i64 k) ∧ Below w.heap.size w w' := by
  have HS : Hid (NdsAt w a S) := hS
  have HA : Hid _ := hall
  have HFk : Hid _ := hf
  clear hS hall hf
  generalize hN : S.length = n at *
  have HN : Hid _ := hN
  clear hN
  go_enter Tryz.func122, Tryz.ntmps122
  go_wp2
  go_loopg [8] n (fun g s8 wr => ∃ i : Nat, i ≤ k ∧ n - i ≤ g ∧ s8 = .int .i64 i ∧ Below w.heap.size w wr)
  case atStart => exact ⟨0, by omega, by omega, rfl, Below.refl _ _⟩
  case round =>
    obtain ⟨i, hi, hg, rfl, hb⟩ := hrel
    have hlt : i < n := by omega
    have hlt2 : (i : Int) < (n : Int) := by omega
    obtain ⟨b, o, rfl, c0, c1, c2, c3, c4, ⟨ka, kc, c5, _⟩, c6, c7⟩ := (HS.out.below hb) i (by rw [HN.out]; exact hlt)
    have d1 := fun v W => free_place (nd S i) v W
    rw [show (!(nd S i).u && decide ((nd S i).n < 1000000)) = freeB (nd S i) from rfl] at d1
    by_cases e : i = k
    · subst e
      rw [HFk.out] at d1
      generalize nd S i = x at *
      go_wp2_with (go_at_call 123; refine (d1 _ _).mono ?_; rintro e w' ⟨rfl, hb1⟩)
      go_ret
      exact ⟨rfl, hb.trans (hb1.mono hb.size)⟩
    · rw [HA.out i (by omega)] at d1
      generalize nd S i = x at *
      go_wp2_with (go_at_call 123; refine (d1 _ _).mono ?_; rintro e w' ⟨rfl, hb1⟩)
      go_roundg (n - (i + 1))
      case measure => omega
      case rel => exact ⟨i + 1, by omega, by omega, by go_num, hb.trans (hb1.mono hb.size)⟩

def unusedNd : Nd := ⟨false, 0, 0, 0, -1, [], -1, false⟩

theorem nd_replicate (n i : Nat) (x : Nd) (h : i < n) : nd (List.replicate n x) i = x := by
  rw [nd_elem (by simpa using h)]; simp

set_option maxHeartbeats 400000 in
theorem new_anyX (n : Nat) (w : World) (hn : n ≤ 24) :
    Calls Tryz.prog 27 #[.int .i64 n] w fun e w' => ∃ g, e = .returned (.tuple #[.agg #[.slice (some ⟨g, 0, none⟩) n n], .int .i64 0]) ∧ Below w.heap.size w w' ∧ NdsAt w' (some ⟨g, 0, none⟩) (List.replicate n unusedNd) ∧ w.heap.size ≤ g ∧ g < w'.heap.size := by
  have hmk := makeNodes n (by omega)
  go_enter Tryz.func27, Tryz.ntmps27
  go_wp2_with (go_at_call 54; refine (within_yes _ _ _ _ (by omega) (by omega)).mono ?_; rintro e w' ⟨rfl, rfl⟩)
  go_loopg [14] n (fun g s14 wr => ∃ (k : Nat) (F : Nat → Value), k ≤ n ∧ n - k ≤ g ∧ s14 = .int .i64 k ∧ Below (w.heap.size + 1) (w.alloc (Obj.cells #[Value.slice none 0 0] 24)) wr ∧ w.heap.size + 1 < wr.heap.size ∧ Hid (wr.rowIs (w.heap.size + 1) 47 (n * 8) F) ∧ Hid (∀ i, i < k → F (i * 8) = .bool false ∧ F (i * 8 + 1) = .int .i64 0 ∧ F (i * 8 + 2) = .int .i64 0 ∧ F (i * 8 + 3) = .int .i64 0 ∧ F (i * 8 + 4) = .int .i64 (-1) ∧ F (i * 8 + 5) = .slice none 0 0 ∧ F (i * 8 + 6) = .int .i64 (-1) ∧ F (i * 8 + 7) = .bool false))
  case atStart =>
    refine ⟨0, fun j => zeroVs[j % 8]!, Nat.zero_le _, by omega, rfl, (Below.refl _ _).alloc (by simp) _, by simp, ?_, (show Hid _ from fun i hi => absurd hi (Nat.not_lt_zero _))⟩
    have h := row_madeNodes (w.alloc (Obj.cells #[Value.slice none 0 0] 24)) n
    simp only [World.size_alloc] at h
    exact h
  case round =>
    obtain ⟨k, F, hk, hg, rfl, hb, hsz, hR, A⟩ := hrel
    have hc0 : wr.cell? ⟨w.heap.size, 0, none⟩ = some (.slice none 0 0) := (hb.cell (by simp)).trans (by go_simp)
    have hf0 : wr.frozen? ⟨w.heap.size, 0, none⟩ = false := (hb.frozen (by simp)).trans (by go_simp)
    by_cases hlt : k < n
    · have q0 := hR.out.cell (i := k * 8) (by omega)
      have q1 := hR.out.cell (i := k * 8 + 1) (by omega)
      have q2 := hR.out.cell (i := k * 8 + 2) (by omega)
      have q3 := hR.out.cell (i := k * 8 + 3) (by omega)
      have q4 := hR.out.cell (i := k * 8 + 4) (by omega)
      have q5 := hR.out.cell (i := k * 8 + 5) (by omega)
      have q6 := hR.out.cell (i := k * 8 + 6) (by omega)
      have q7 := hR.out.cell (i := k * 8 + 7) (by omega)
      have hfz := hR.out.frozen
      go_wp2_with (go_at_call 75; refine (unused_any _ _).mono ?_; rintro e w' ⟨rfl, rfl⟩)
      go_roundg (n - (k + 1))
      case measure => omega
      case rel =>
        refine ⟨k + 1, _, by omega, by omega, by go_num, ?_, by simp; omega, (row_set8 hR.out (k * 8) _ _ _ _ _ _ _ _).alloc _, (show Hid _ from fun i hi => ?_)⟩
        · exact ((((((((hb.setCell (by simp) _).setCell (by simp) _).setCell (by simp) _).setCell (by simp) _).setCell (by simp) _).setCell (by simp) _).setCell (by simp) _).setCell (by simp) _).alloc (by simp; omega) _
        · by_cases e : i = k
          · subst e
            unfold put8
            refine ⟨?_, ?_, ?_, ?_, ?_, ?_, ?_, ?_⟩
            · rw [if_neg (by omega), if_neg (by omega), if_neg (by omega), if_neg (by omega), if_neg (by omega), if_neg (by omega), if_neg (by omega), if_pos rfl]
            · rw [if_neg (by omega), if_neg (by omega), if_neg (by omega), if_neg (by omega), if_neg (by omega), if_neg (by omega), if_pos rfl]
            · rw [if_neg (by omega), if_neg (by omega), if_neg (by omega), if_neg (by omega), if_neg (by omega), if_pos rfl]
            · rw [if_neg (by omega), if_neg (by omega), if_neg (by omega), if_neg (by omega), if_pos rfl]
            · rw [if_neg (by omega), if_neg (by omega), if_neg (by omega), if_pos rfl]
            · rw [if_neg (by omega), if_neg (by omega), if_pos rfl]
            · rw [if_neg (by omega), if_pos rfl]
            · rw [if_pos rfl]
          · obtain ⟨e0, e1, e2, e3, e4, e5, e6, e7⟩ := A.out i (by omega)
            refine ⟨?_, ?_, ?_, ?_, ?_, ?_, ?_, ?_⟩
            all_goals
              rw [put8_other (by omega)]
              assumption
    · have : k = n := by omega
      subst this
      go_wp2
      refine bodyPost_ret (v := .tuple #[.agg #[.slice (some ⟨w.heap.size + 1, 0, none⟩) k k], .int .i64 0]) (by simp [results, Tryz.results27, go_sem, hc0]) rfl ⟨w.heap.size + 1, rfl, ?_, fun i hi => ?_, by omega, by simp; omega⟩
      · exact (((Below.refl _ _).alloc (Nat.le_refl _) _).trans (hb.mono (by omega))).setCell (Nat.le_refl _) _
      · have hi' : i < k := by simpa using hi
        have hR2 := hR.out.setOther (a := ⟨w.heap.size, 0, none⟩) (by simp) (.slice (some ⟨w.heap.size + 1, 0, none⟩) k k)
        obtain ⟨e0, e1, e2, e3, e4, e5, e6, e7⟩ := A.out i hi'
        rw [nd_replicate k i _ hi']
        refine ⟨w.heap.size + 1, 0, rfl, ?_⟩
        rw [Nat.zero_add]
        refine ⟨?_, ?_, ?_, ?_, ?_, ⟨none, 0, ?_, fun j hj => absurd hj (Nat.not_lt_zero _)⟩, ?_, ?_⟩
        · rw [hR2.cell (by omega), e0]; rfl
        · rw [hR2.cell (by omega), e1]; rfl
        · rw [hR2.cell (by omega), e2]; rfl
        · rw [hR2.cell (by omega), e3]; rfl
        · rw [hR2.cell (by omega), e4]; rfl
        · rw [hR2.cell (by omega), e5]; rfl
        · rw [hR2.cell (by omega), e6]; rfl
        · rw [hR2.cell (by omega), e7]; rfl
theorem new_any (n : Nat) (w : World) (hn : n ≤ 24) :
    Calls Tryz.prog 27 #[.int .i64 n] w fun e w' => ∃ g, e = .returned (.tuple #[.agg #[.slice (some ⟨g, 0, none⟩) n n], .int .i64 0]) ∧ Below w.heap.size w w' ∧ NdsAt w' (some ⟨g, 0, none⟩) (List.replicate n unusedNd) :=
  (new_anyX n w hn).mono (fun _ _ h => by obtain ⟨g, h1, h2, h3, _⟩ := h; exact ⟨g, h1, h2, h3⟩)
end Go.Proofs.YtgjfmepbphfjoaaGreat

namespace Go.Proofs.YtgjfmepbphfjoaaGreat
open Go.RowKit

theorem nd_set (S : List Nd) (k i : Nat) (x : Nd) (hk : k < S.length) : nd (S.set k x) i = if i = k then x else nd S i := by
  unfold nd
  by_cases e : i = k
  · subst e
    simp [List.getD, hk]
  · rw [if_neg e]
    simp [List.getD, Ne.symm e]

/-- A store of the call's own whose row has turned. -/
theorem Own.turned {w w' : World} {B g : Nat} {S S' : List Nd} {kb kc : Nat → Nat} (h : Own w B g S kb kc S.length) (hl : S'.length = S.length) {F' : Nat → Value} (hF : w'.rowIs g 47 (S.length * 8) F')
    (hN : ∀ F, w.rowIs g 47 (S.length * 8) F → (∀ i, i < S.length → NdR w F (i * 8) (nd S i) (kb i) (kc i)) → (∀ i, i < S.length → g < kb i) → ∀ i, i < S.length → ∃ kb' kc', NdR w' F' (i * 8) (nd S' i) kb' kc' ∧ g ≤ kb') : ∀ w3 : World, (∀ b, g ≤ b → w3.heap[b]? = w'.heap[b]?) → NdsAt w3 (some ⟨g, 0, none⟩) S' := fun w3 hup i hi => by
  obtain ⟨_, F, hF0, hN0, hg, _⟩ := h
  obtain ⟨kb', kc', ⟨e0, e1, e2, e3, e4, e5, e6, e7, e8, e8b, G, hG0, e9⟩, hgk⟩ := hN F hF0 hN0 hg i (by omega)
  have hG := hG0.of_block (hup kb' hgk)
  replace hF := hF.of_block (hup g (Nat.le_refl _))
  refine ⟨g, 0, rfl, ?_⟩
  rw [Nat.zero_add]
  refine ⟨?_, ?_, ?_, ?_, ?_, ⟨some ⟨kb', 0, none⟩, kc', ?_, fun j hj => ⟨kb', 0, rfl, ?_⟩⟩, ?_, ?_⟩
  · rw [hF.cell (by omega), e0]
  · rw [hF.cell (by omega), e1]
  · rw [hF.cell (by omega), e2]
  · rw [hF.cell (by omega), e3]
  · rw [hF.cell (by omega), e4]
  · rw [hF.cell (by omega), e5]
  · rw [Nat.zero_add, hG.cell (by omega), e9 j hj]
  · rw [hF.cell (by omega), e6]
  · rw [hF.cell (by omega), e7]

theorem make_low {w w1 : World} {a : Option Addr} {n c : Nat} (hb : Below (w.heap.size + 1 + 1 + 1) (((w.alloc (.cells #[.slice a n c] 24)).alloc (.cells #[.slice none 0 0] 24)).alloc (.cells #[.int .i64 0, .int .i64 0] 39)) w1) :
    w1.cell? ⟨w.heap.size, 0, none⟩ = some (.slice a n c) ∧ w1.cell? ⟨w.heap.size + 1, 0, none⟩ = some (.slice none 0 0) ∧ w1.cell? ⟨w.heap.size + 1 + 1, 0, none⟩ = some (.int .i64 0) ∧ w1.cell? ⟨w.heap.size + 1 + 1, 1, none⟩ = some (.int .i64 0) ∧
    w1.frozen? ⟨w.heap.size + 1, 0, none⟩ = false ∧ w1.frozen? ⟨w.heap.size + 1 + 1, 0, none⟩ = false ∧ w1.frozen? ⟨w.heap.size + 1 + 1, 1, none⟩ = false :=
  ⟨(hb.cell (by simp; omega)).trans (by go_simp), (hb.cell (by simp)).trans (by go_simp), (hb.cell (by simp)).trans (by go_simp), (hb.cell (by simp)).trans (by go_simp), (hb.frozen (by simp)).trans (by go_simp), (hb.frozen (by simp)).trans (by go_simp), (hb.frozen (by simp)).trans (by go_simp)⟩

theorem three_below (w : World) (o1 o2 o3 : Obj) : Below w.heap.size w (((w.alloc o1).alloc o2).alloc o3) := ((((Below.refl _ _).alloc (Nat.le_refl _) _).alloc (by simp) _).alloc (by simp; omega) _)

def madeNd (x : Nd) (t : Int) : Nd := ⟨true, x.n + 1, t, x.m, x.p, x.ks, x.h, x.c⟩

set_option maxHeartbeats 1000000 in
theorem make_ok (a : Option Addr) (c : Nat) (S : List Nd) (t : Int) (w : World) (hN : S.length ≤ 24) (hK : ∀ i, i < S.length → (nd S i).ks.length ≤ 1000) (hS : NdsAt w a S) (hC : checkE S = 0) (ht0 : 0 ≤ t) (ht1 : t ≤ 99) (k : Nat) (hk : k < S.length) (hfr : freeB (nd S k) = true) (h0 : 0 ≤ (nd S k).n) (hall : ∀ i, i < k → freeB (nd S i) = false) :
    Calls Tryz.prog 101 #[.agg #[.slice a S.length c], .int .i64 t] w fun e w' => ∃ g, e = .returned (.tuple #[.agg #[.slice (some ⟨g, 0, none⟩) S.length S.length], .agg #[.int .i64 k, .int .i64 ((nd S k).n + 1)], .int .i64 0]) ∧ Below w.heap.size w w' ∧ w.heap.size ≤ g ∧ ∀ w3 : World, (∀ b, g ≤ b → w3.heap[b]? = w'.heap[b]?) → NdsAt w3 (some ⟨g, 0, none⟩) (S.set k (madeNd (nd S k) t)) := by
  have h2 : (nd S k).n < 1000000 := by
    unfold freeB at hfr
    simp at hfr
    exact hfr.2
  have HS : Hid (NdsAt w a S) := hS
  have df := fun (W : World) (hW : NdsAt W a S) => firstFree_at a c S W (by omega) hW k hk hfr hall
  have DF : Hid _ := df
  have dc := fun (W : World) (hW : NdsAt W a S) => copy_any a c S W hN hK hW
  have DC : Hid _ := dc
  have d0 := fun W hW => check_any a c S W (by omega) (fun i hi => Nat.le_trans (hK i hi) (by omega)) hW
  rw [hC] at d0
  have D0 : Hid _ := d0
  have TU : Hid (∀ (w w' : World) (B g : Nat) (kb kc : Nat → Nat) (h : Own w B g S kb kc S.length) (F' : Nat → Value) (hF : w'.rowIs g 47 (S.length * 8) F')
    (hN : ∀ F, w.rowIs g 47 (S.length * 8) F → (∀ i, i < S.length → NdR w F (i * 8) (nd S i) (kb i) (kc i)) → (∀ i, i < S.length → g < kb i) → ∀ i, i < S.length → ∃ kb' kc', NdR w' F' (i * 8) (nd (S.set k (madeNd (nd S k) t)) i) kb' kc' ∧ g ≤ kb'), ∀ w3 : World, (∀ b, g ≤ b → w3.heap[b]? = w'.heap[b]?) → NdsAt w3 (some ⟨g, 0, none⟩) (S.set k (madeNd (nd S k) t))) := fun w w' B g kb kc h F' hF hN => Own.turned h (by simp) hF hN
  have SET : Hid (∀ i, nd (S.set k (madeNd (nd S k) t)) i = if i = k then madeNd (nd S k) t else nd S i) := fun i => nd_set S k i _ hk
  have OC : Hid (∀ (wr : World) (B g : Nat) (kb kc : Nat → Nat), Own wr B g S kb kc S.length → (g < wr.heap.size ∧ (∀ o, wr.frozen? ⟨g, o, none⟩ = false) ∧ (∃ F : Nat → Value, wr.rowIs g 47 (S.length * 8) F) ∧ wr.cell? ⟨g, k * 8, none⟩ = some (.bool (nd S k).u) ∧ wr.cell? ⟨g, k * 8 + 1, none⟩ = some (.int .i64 (nd S k).n) ∧ wr.cell? ⟨g, k * 8 + 2, none⟩ = some (.int .i64 (nd S k).t))) := fun wr B g kb kc h => by
    obtain ⟨_, F, hF, hNd, _⟩ := h
    obtain ⟨e0, e1, e2, _⟩ := hNd k hk
    exact ⟨hF.lt, hF.frozen, ⟨F, hF⟩, by rw [hF.cell (by omega), e0], by rw [hF.cell (by omega), e1], by rw [hF.cell (by omega), e2]⟩
  clear hS hall df dc d0 hC hK hfr
  generalize hn : S.length = n at *
  generalize hnk : (nd S k).n = nk at *
  have hk2 : (k : Int) < (n : Int) := by omega
  have hk3 : decide ((k : Int) < 0) = false := decide_eq_false (by omega)
  clear hn
  have HNK : Hid _ := hnk
  clear hnk
  go_enter Tryz.func101, Tryz.ntmps101
  go_wp2_with (go_at_call 20; refine (D0.out _ (HS.out.below (three_below _ _ _ _))).mono ?_; rintro e w0 ⟨rfl, hb0⟩; simp only [World.size_alloc] at hb0; obtain ⟨l0, l1, l2, l3, z1, z2, z3⟩ := make_low hb0; have hB0 : Below w.heap.size w w0 := (three_below _ _ _ _).trans (hb0.mono (by omega)))
  go_wp2_with (go_at_call 54; refine (within_yes _ _ _ _ (by omega) (by omega)).mono ?_; rintro e w' ⟨rfl, rfl⟩)
  refine (DF.out _ (HS.out.below hB0)).mono ?_
  rintro e w1 ⟨rfl, hb1'⟩
  have hs0 := hb0.size
  simp only [World.size_alloc] at hs0
  have hb1 := hb0.trans (hb1'.mono hs0)
  have hB1 : Below w.heap.size w w1 := (three_below _ _ _ _).trans (hb1.mono (by omega))
  clear l0 l1 l2 l3 z1 z2 z3 hb0 hb1' hB0
  obtain ⟨l0, l1, l2, l3, z1, z2, z3⟩ := make_low hb1
  go_wp2_with fail
  refine (DC.out _ (HS.out.below hB1)).mono ?_
  rintro e w2 ⟨g, kb, kc, rfl, hb2, hO2⟩
  have hs1 := hb1.size
  simp only [World.size_alloc] at hs1
  have hb12 := hb1.trans (hb2.mono hs1)
  obtain ⟨m0, m1, m2, m3, y1, y2, y3⟩ := make_low hb12
  obtain ⟨hgl, hfz, ⟨F, hF⟩, d0, d1, d2⟩ := OC.out _ _ _ _ _ hO2
  have hgge : w1.heap.size ≤ g := hO2.1
  have hgge2 : w.heap.size + 1 + 1 < g := by omega
  have HO2 : Hid (Own w2 w1.heap.size g S kb kc n) := hO2
  have HB : Hid (Below (w.heap.size + 1 + 1 + 1) (((w.alloc (.cells #[.slice a n c] 24)).alloc (.cells #[.slice none 0 0] 24)).alloc (.cells #[.int .i64 0, .int .i64 0] 39)) w2) := hb12
  have HF : Hid (w2.rowIs g 47 (n * 8) F) := hF
  clear hO2 hF l0 l1 l2 l3 z1 z2 z3 hb1 hb2 hb12
  go_wp2
  obtain ⟨W3, hW3⟩ : ∃ W3, W3 = (((w2.setCell ⟨g, k * 8, none⟩ (Value.bool true)).setCell ⟨g, k * 8 + 1, none⟩ (Value.int IntKind.i64 (nk + 1))).setCell ⟨g, k * 8 + 2, none⟩ (Value.int IntKind.i64 t)).alloc (Obj.cells #[Value.slice (some ⟨g, 0, none⟩) n n] 24) := ⟨_, rfl⟩
  rw [← hW3]
  have q8 : W3.cell? ⟨w2.heap.size, 0, none⟩ = some (.slice (some ⟨g, 0, none⟩) n n) := by rw [hW3]; go_simp
  have q1 : W3.cell? ⟨g, k * 8 + 1, none⟩ = some (.int .i64 (nk + 1)) := by rw [hW3]; go_simp
  have hsz : W3.heap.size = w2.heap.size + 1 := by rw [hW3]; simp
  have hb3 : Below (w.heap.size + 1 + 1 + 1) (((w.alloc (.cells #[.slice a n c] 24)).alloc (.cells #[.slice none 0 0] 24)).alloc (.cells #[.int .i64 0, .int .i64 0] 39)) W3 := by
    rw [hW3]
    exact (((HB.out.setCell (by simp; omega) _).setCell (by simp; omega) _).setCell (by simp; omega) _).alloc (by simp; omega) _
  clear m0 m1 m2 m3 y1 y2 y3 d0 d1 d2 hfz
  obtain ⟨m0, m1, m2, m3, y1, y2, y3⟩ := make_low hb3
  have HB3 : Hid (Below (w.heap.size + 1 + 1 + 1) (((w.alloc (.cells #[.slice a n c] 24)).alloc (.cells #[.slice none 0 0] 24)).alloc (.cells #[.int .i64 0, .int .i64 0] 39)) W3) := hb3
  have HW3 : Hid (W3 = (((w2.setCell ⟨g, k * 8, none⟩ (Value.bool true)).setCell ⟨g, k * 8 + 1, none⟩ (Value.int IntKind.i64 (nk + 1))).setCell ⟨g, k * 8 + 2, none⟩ (Value.int IntKind.i64 t)).alloc (Obj.cells #[Value.slice (some ⟨g, 0, none⟩) n n] 24)) := hW3
  have HSZ : Hid (W3.heap.size = w2.heap.size + 1) := hsz
  clear hb3 hW3 HB hsz
  go_region
  all_goals (try go_wp2)
  refine bodyPost_ret (v := .tuple #[.agg #[.slice (some ⟨g, 0, none⟩) n n], .agg #[.int .i64 k, .int .i64 (nk + 1)], .int .i64 0]) (by simp [results, Tryz.results101, go_sem, m1, m2, m3]) rfl ⟨g, rfl, ?_, by omega, ?_⟩
  · have hbo : Below w.heap.size w W3 := (three_below _ _ _ _).trans (HB3.out.mono (by omega))
    exact (((hbo.setCell (by simp) _).setCell (by simp; omega) _).setCell (by simp; omega) _).drew
  · have hr3 := (((HF.out.set (k * 8) (.bool true)).set (k * 8 + 1) (.int .i64 (nk + 1))).set (k * 8 + 2) (.int .i64 t)).alloc (Obj.cells #[Value.slice (some ⟨g, 0, none⟩) n n] 24)
    rw [← HW3.out] at hr3
    have hr4 := (((hr3.setOther (a := ⟨w.heap.size + 1, 0, none⟩) (by simp; omega) (.slice (some ⟨g, 0, none⟩) n n)).setOther (a := ⟨w.heap.size + 1 + 1, 0, none⟩) (by simp; omega) (.int .i64 k)).setOther (a := ⟨w.heap.size + 1 + 1, 1, none⟩) (by simp; omega) (.int .i64 (nk + 1))).drew
    refine TU.out w2 _ _ g kb kc HO2.out _ hr4 (fun F0 hF0 hN0 hg0 i hi => ⟨kb i, kc i, ?_, Nat.le_of_lt (hg0 i hi)⟩)
    have hFF : ∀ j, j < n * 8 → F j = F0 j := fun j hj => by
      have h1 := HF.out.cell hj
      rw [hF0.cell hj] at h1
      exact (Option.some.inj h1).symm
    have hgi := hg0 i hi
    obtain ⟨e0, e1, e2, e3, e4, e5, e6, e7, e8, e8b, G, hG, e9⟩ := hN0 i hi
    have hG3 := (((hG.setOther (a := ⟨g, k * 8, none⟩) (by simp; omega) (.bool true)).setOther (a := ⟨g, k * 8 + 1, none⟩) (by simp; omega) (.int .i64 (nk + 1))).setOther (a := ⟨g, k * 8 + 2, none⟩) (by simp; omega) (.int .i64 t)).alloc (Obj.cells #[Value.slice (some ⟨g, 0, none⟩) n n] 24)
    rw [← HW3.out] at hG3
    have hG4 := (((hG3.setOther (a := ⟨w.heap.size + 1, 0, none⟩) (by simp; omega) (.slice (some ⟨g, 0, none⟩) n n)).setOther (a := ⟨w.heap.size + 1 + 1, 0, none⟩) (by simp; omega) (.int .i64 k)).setOther (a := ⟨w.heap.size + 1 + 1, 1, none⟩) (by simp; omega) (.int .i64 (nk + 1))).drew
    rw [SET.out i]
    by_cases e : i = k
    · subst e
      rw [if_pos rfl]
      unfold madeNd
      refine ⟨?_, ?_, ?_, ?_, ?_, ?_, ?_, ?_, e8, e8b, G, hG4, e9⟩
      all_goals dsimp only
      · rw [if_neg (by omega), if_neg (by omega), if_pos rfl]
      · rw [if_neg (by omega), if_pos rfl, HNK.out]
      · rw [if_pos rfl]
      · rw [if_neg (by omega), if_neg (by omega), if_neg (by omega), hFF _ (by omega), e3]
      · rw [if_neg (by omega), if_neg (by omega), if_neg (by omega), hFF _ (by omega), e4]
      · rw [if_neg (by omega), if_neg (by omega), if_neg (by omega), hFF _ (by omega), e5]
      · rw [if_neg (by omega), if_neg (by omega), if_neg (by omega), hFF _ (by omega), e6]
      · rw [if_neg (by omega), if_neg (by omega), if_neg (by omega), hFF _ (by omega), e7]
    · rw [if_neg e]
      refine ⟨?_, ?_, ?_, ?_, ?_, ?_, ?_, ?_, e8, e8b, G, hG4, e9⟩
      all_goals
        dsimp only
        rw [if_neg (by omega), if_neg (by omega), if_neg (by omega), hFF _ (by omega)]
        assumption
end Go.Proofs.YtgjfmepbphfjoaaGreat

namespace Go.Proofs.YtgjfmepbphfjoaaGreat
open Go.RowKit

theorem WF.kid_deep {S : List Nd} (h : WF S) {f p : Nat} (hp : p < S.length) (hD : Deep S (f + 1) p) {x : Int} (hx : x ∈ (nd S p).ks) :
    ∃ k : Nat, x = k ∧ k < S.length ∧ (nd S k).u = true ∧ (nd S k).p = p ∧ rightUnder (nd S k) = p ∧ Deep S f k := by
  obtain ⟨k, rfl, h1, h2, h3, h4⟩ := h.kid hp hx
  have := (hD (k : Int) hx).2
  rw [Int.toNat_natCast] at this
  exact ⟨k, rfl, h1, h2, h3, h4, this⟩

theorem mem_order {S : List Nd} (h : WF S) : ∀ {f p : Nat}, p < S.length → Deep S f p → ∀ x ∈ orderF S f p, ∃ q : Nat, x = q ∧ q < S.length ∧ (q = p ∨ (nd S q).u = true) ∧ ∃ j, j ≤ f ∧ Up S j q p
  | 0, p, hp, _, x, hx => by
    have : x = (p : Int) := by simpa [orderF] using hx
    exact ⟨p, this, hp, Or.inl rfl, 0, Nat.le_refl _, rfl⟩
  | f + 1, p, hp, hD, x, hx => by
    simp only [orderF, List.mem_cons, List.mem_flatMap] at hx
    rcases hx with rfl | ⟨k, hk, hx⟩
    · exact ⟨p, rfl, hp, Or.inl rfl, 0, by omega, rfl⟩
    · obtain ⟨k, rfl, h1, h2, h3, h4, h5⟩ := h.kid_deep hp hD hk
      rw [Int.toNat_natCast] at hx
      obtain ⟨q, e, hq, hu, j, hj, hup⟩ := mem_order h h1 h5 x hx
      refine ⟨q, e, hq, Or.inr ?_, j + 1, by omega, hup.trans (WF.up_one hp h4)⟩
      rcases hu with rfl | hu
      · exact h2
      · exact hu

theorem nodup_flat {α β : Type} (g : α → List β) : ∀ (ks : List α), ks.Nodup → (∀ k ∈ ks, (g k).Nodup) → (∀ k ∈ ks, ∀ k' ∈ ks, k ≠ k' → ∀ x ∈ g k, x ∉ g k') → (ks.flatMap g).Nodup
  | [], _, _, _ => by simp
  | k :: ks, hn, hg, hd => by
    rw [List.flatMap_cons, List.nodup_append]
    obtain ⟨h1, h2⟩ := List.nodup_cons.1 hn
    refine ⟨hg k (by simp), nodup_flat g ks h2 (fun k' hk' => hg k' (by simp [hk'])) (fun a ha b hb => hd a (by simp [ha]) b (by simp [hb])), fun x hx y hy e => ?_⟩
    obtain ⟨k', hk', hy⟩ := List.mem_flatMap.1 hy
    exact hd k (by simp) k' (by simp [hk']) (fun e => h1 (by rw [e]; exact hk')) x hx (by rw [e]; exact hy)

theorem cntU_mono (S : List Nd) (j : Nat) : ∀ {k k' : Nat}, k ≤ k' → k' ≤ S.length → cntU S k j ≤ cntU S k' j := by
  intro k k' hk
  induction hk with
  | refl => intro _; exact Nat.le_refl _
  | step _ ih =>
    intro h
    rw [cntU_succ S _ j (by omega)]
    have := ih (by omega)
    omega

theorem WF.kids_nodup {S : List Nd} (h : WF S) {i : Nat} (hi : i < S.length) : (nd S i).ks.Nodup := by
  rw [List.nodup_iff_count]
  intro x
  by_cases hx : x ∈ (nd S i).ks
  · obtain ⟨k, rfl, hk, _⟩ := h.kid hi hx
    have h1 := (h.kids.2 k hk).1
    have h2 := cntU_succ S i k hi
    have h3 := cntU_mono S k (k := i + 1) (k' := S.length) (by omega) (Nat.le_refl _)
    omega
  · rw [List.count_eq_zero.2 hx]; omega

/-- Who has a parent stands in its children. -/
theorem WF.in_kids {S : List Nd} (h : WF S) {k : Nat} (hk : k < S.length) {y : Nat} (hp : (nd S k).p = y) : y < S.length ∧ (k : Int) ∈ (nd S y).ks := by
  have hc := (h.kids.2 k hk).2 (by omega)
  unfold cntU at hc
  rw [List.take_length] at hc
  have hm : (k : Int) ∈ S.flatMap Nd.ks := by
    by_cases hm : (k : Int) ∈ S.flatMap Nd.ks
    · exact hm
    · exact absurd (List.count_eq_zero.2 hm) hc
  obtain ⟨x, hx, hkx⟩ := List.mem_flatMap.1 hm
  obtain ⟨i, hi, rfl⟩ := List.getElem_of_mem hx
  rw [← nd_elem hi] at hkx
  obtain ⟨k', e, _, _, h3, _⟩ := h.kid hi hkx
  have : k' = k := by omega
  subst this
  have : y = i := by omega
  subst this
  exact ⟨hi, hkx⟩

theorem nodup_order {S : List Nd} (h : WF S) : ∀ {f p : Nat}, p < S.length → f ≤ S.length → Deep S f p → (orderF S f p).Nodup
  | 0, p, _, _, _ => by simp [orderF]
  | f + 1, p, hp, hf, hD => by
    simp only [orderF]
    rw [List.nodup_cons]
    refine ⟨fun hm => ?_, nodup_flat _ _ (h.kids_nodup hp) (fun x hx => ?_) (fun x hx y hy hne z hz hz' => ?_)⟩
    · obtain ⟨x, hx, hm⟩ := List.mem_flatMap.1 hm
      obtain ⟨k, rfl, h1, h2, h3, h4, h5⟩ := h.kid_deep hp hD hx
      rw [Int.toNat_natCast] at hm
      obtain ⟨q, e, hq, _, j, hj, hup⟩ := mem_order h h1 h5 _ hm
      have : q = p := by omega
      subst this
      exact h.no_ring hp (j := j + 1) (by omega) (by omega) (hup.trans (WF.up_one hp h4))
    · obtain ⟨k, rfl, h1, h2, h3, h4, h5⟩ := h.kid_deep hp hD hx
      rw [Int.toNat_natCast]
      exact nodup_order h h1 (by omega) h5
    · obtain ⟨k, rfl, h1, h2, h3, h4, h5⟩ := h.kid_deep hp hD hx
      obtain ⟨k', rfl, h1', h2', h3', h4', h5'⟩ := h.kid_deep hp hD hy
      rw [Int.toNat_natCast] at hz hz'
      obtain ⟨q, e, hq, _, j, hj, hup⟩ := mem_order h h1 h5 _ hz
      obtain ⟨q', e', hq', _, j', hj', hup'⟩ := mem_order h h1' h5' _ hz'
      have : q = q' := by omega
      subst this
      have u1 := hup.trans (WF.up_one hp h4)
      have u2 := hup'.trans (WF.up_one hp h4')
      have hjj : j = j' := by
        rcases Nat.lt_trichotomy j j' with hlt | e | hlt
        · obtain ⟨y, v1, v2⟩ := Up.split (i := j + 1) (j := j' - j) (by rw [show j + 1 + (j' - j) = j' + 1 by omega]; exact u2)
          have := Up.det v1 u1
          subst this
          exact absurd v2 (h.no_ring hp (by omega) (by omega))
        · exact e
        · obtain ⟨y, v1, v2⟩ := Up.split (i := j' + 1) (j := j - j') (by rw [show j' + 1 + (j - j') = j + 1 by omega]; exact u1)
          have := Up.det v1 u2
          subst this
          exact absurd v2 (h.no_ring hp (by omega) (by omega))
      subst hjj
      exact hne (by rw [Up.det hup hup'])

theorem order_le {S : List Nd} (h : WF S) {p : Nat} (hp : p < S.length) : (orderF S S.length p).length ≤ S.length := by
  have h1 := nodup_order h hp (Nat.le_refl _) (h.deep_all hp)
  have := h1.length_le_of_subset (l₂ := (List.range S.length).map (fun i : Nat => (i : Int))) (fun x hx => by
    obtain ⟨q, rfl, hq, _⟩ := mem_order h hp (h.deep_all hp) x hx
    exact List.mem_map.2 ⟨q, List.mem_range.2 hq, rfl⟩)
  simpa using this

/-- Each stands behind its parent. -/
def Par (S : List Nd) : List Int → List Int → Prop
  | _, [] => True
  | seen, x :: r => (nd S x.toNat).p ∈ seen ∧ Par S (seen ++ [x]) r

theorem Par.append {S : List Nd} : ∀ {a b seen : List Int}, Par S seen a → Par S (seen ++ a) b → Par S seen (a ++ b)
  | [], b, seen, _, hb => by simpa using hb
  | x :: a, b, seen, ⟨h1, h2⟩, hb => ⟨h1, Par.append h2 (by simpa using hb)⟩

theorem Par.flat {S : List Nd} {p : Int} (g : Int → List Int) : ∀ (ks seen : List Int), p ∈ seen → (∀ k ∈ ks, ∀ seen', p ∈ seen' → Par S seen' (g k)) → Par S seen (ks.flatMap g)
  | [], _, _, _ => trivial
  | k :: ks, seen, hp, hg => by
    rw [List.flatMap_cons]
    exact Par.append (hg k (by simp) seen hp) (Par.flat g ks _ (by simp [hp]) (fun k' hk' => hg k' (by simp [hk'])))

theorem par_order {S : List Nd} (h : WF S) : ∀ {f p : Nat} {seen : List Int}, p < S.length → Deep S f p → (nd S p).p ∈ seen → Par S seen (orderF S f p)
  | 0, p, seen, _, _, hm => ⟨by simpa using hm, trivial⟩
  | f + 1, p, seen, hp, hD, hm => by
    refine ⟨by simpa using hm, Par.flat (p := (p : Int)) _ _ _ (by simp) (fun x hx seen' hs => ?_)⟩
    obtain ⟨k, rfl, h1, h2, h3, h4, h5⟩ := h.kid_deep hp hD hx
    rw [Int.toNat_natCast]
    exact par_order h h1 h5 (by rw [h3]; exact hs)

theorem par_root {S : List Nd} (h : WF S) {f p : Nat} (hp : p < S.length) (hD : Deep S f p) : ∃ r, orderF S f p = (p : Int) :: r ∧ Par S [(p : Int)] r := by
  cases f with
  | zero => exact ⟨[], rfl, trivial⟩
  | succ f =>
    refine ⟨_, rfl, Par.flat (p := (p : Int)) _ _ _ (by simp) (fun x hx seen' hs => ?_)⟩
    obtain ⟨k, rfl, h1, h2, h3, h4, h5⟩ := h.kid_deep hp hD hx
    rw [Int.toNat_natCast]
    exact par_order h h1 h5 (by rw [h3]; exact hs)

theorem Par.get {S : List Nd} : ∀ {r seen : List Int} {i : Nat}, Par S seen r → i < r.length → (nd S (r.getD i 0).toNat).p ∈ seen ++ r.take i
  | x :: r, seen, 0, ⟨h1, _⟩, _ => by simpa using h1
  | x :: r, seen, i + 1, ⟨_, h2⟩, hi => by
    have := Par.get h2 (i := i) (by simpa using hi)
    simpa using this

theorem kid_in {S : List Nd} (h : WF S) : ∀ {f p : Nat}, p < S.length → Deep S f p → ∀ y ∈ orderF S f p, ∀ k ∈ (nd S y.toNat).ks, k ∈ orderF S f p
  | 0, p, _, hD, y, hy, k, hk => by
    have : y = (p : Int) := by simpa [orderF] using hy
    subst this
    rw [Int.toNat_natCast, show (nd S p).ks = [] from hD] at hk
    cases hk
  | f + 1, p, hp, hD, y, hy, k, hk => by
    simp only [orderF, List.mem_cons, List.mem_flatMap] at hy ⊢
    right
    rcases hy with rfl | ⟨x, hx, hy⟩
    · rw [Int.toNat_natCast] at hk
      obtain ⟨k', rfl, h1, h2, h3, h4, h5⟩ := h.kid_deep hp hD hk
      refine ⟨_, hk, ?_⟩
      rw [Int.toNat_natCast]
      cases f <;> simp [orderF]
    · obtain ⟨k', rfl, h1, h2, h3, h4, h5⟩ := h.kid_deep hp hD hx
      rw [Int.toNat_natCast] at hy
      refine ⟨_, hx, ?_⟩
      rw [Int.toNat_natCast]
      exact kid_in h h1 h5 y hy k hk

def orderS (S : List Nd) (p : Nat) : List Int := orderF S S.length p
end Go.Proofs.YtgjfmepbphfjoaaGreat
