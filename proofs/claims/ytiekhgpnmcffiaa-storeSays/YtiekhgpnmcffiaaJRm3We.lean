/-
  slices.Repeat of one node that is not in use.
-/
import Derived.Test.YtiekhgpnmcffiaaJRmRm2
import Derived.Deep.RegionLaw
import Derived.Test.YtiekhgpnmcffiaaJWd
namespace Go.Proofs.Ytiekhgpnmcffiaa
open Go.RowKit

def patL (k : Nat) : List Value := (List.range (k * 8)).map fun j => patV (j % 8)
theorem patL_len (k : Nat) : (patL k).length = k * 8 := by simp [patL]
theorem patL_good (k : Nat) : Good (patL k) k := fun m hm => by
  unfold patL
  rw [List.getElem?_map, List.getElem?_range hm]
  rfl

theorem slice_from (g n j : Nat) (hj : j < n) : ∀ W, (Instr.slice 27 (.slice (some ⟨g, 0, none⟩) n n) (some (.int .i64 (j : Int))) none none).run Try.prog W = .ok (.slice (some ⟨g, j * 8, none⟩) (n - j) (n - j)) W := fun W => by
  have h1 : ¬ ((n : Int) = (j : Int)) := by omega
  have h2 : (j : Int) ≤ (n : Int) := by omega
  have h3 : (0 : Int) ≤ (j : Int) := by omega
  go_simp
  try omega

theorem slice_upto (g n j : Nat) (hj : j < n) : ∀ W, (Instr.slice 27 (.slice (some ⟨g, 0, none⟩) n n) none (some (.int .i64 (j : Int))) none).run Try.prog W = .ok (.slice (some ⟨g, 0, none⟩) j n) W := fun W => by
  have h1 : ¬ ((n : Int) = (j : Int)) := by omega
  have h2 : (j : Int) ≤ (n : Int) := by omega
  have h3 : (0 : Int) ≤ (j : Int) := by omega
  go_simp
  try omega

theorem good_src {W : World} {g : Nat} {X : List Value} (h : W.heap[g]? = some (.cells X.toArray 38 (0, 0))) (k : Nat) : ∀ j v, (X.take k)[j]? = some v → W.cell? ((⟨g, 0, none⟩ : Addr).add j) = some v := fun j v hj => by
  rw [Addr.add_lit, Nat.zero_add]
  rw [List.getElem?_take] at hj
  split at hj
  · simp only [World.cell?, h]
    simpa using hj
  · cases hj

theorem good_one {X : List Value} {j m n : Nat} (h : Good X j) (hm : m ≤ j) (hl : X.length = n * 8) (hj : j ≤ n) : ∀ v ∈ X.take (m * 8), v.oneCell' = true := fun v hv => by
  obtain ⟨i, hi, e⟩ := List.getElem_of_mem hv
  rw [List.length_take] at hi
  have h2 := h i (by omega)
  rw [List.getElem_take] at e
  rw [List.getElem?_eq_getElem (by omega), e] at h2
  cases h2
  exact pat_one _

set_option maxRecDepth 100000 in
set_option maxHeartbeats 800000 in
theorem repeat_one (n xb xc : Nat) (hn : n ≤ 24) (w : World) (hx : ∀ m, m < 8 → w.cell? ⟨xb, m, none⟩ = some (patV m)) :
    Calls Try.prog 24 #[.slice (some ⟨xb, 0, none⟩) 1 xc, .int .i64 n] w fun e w' => ∃ g, e = .returned (.slice (some ⟨g, 0, none⟩) n n) ∧ Below w.heap.size w w' ∧ NdsAt w' (some ⟨g, 0, none⟩) (List.replicate n unusedNd) := by
  have HX : Hid _ := hx
  clear hx
  obtain ⟨i0, hi0, hz0, hz1, hz2⟩ := info_parts info38
  have hn2 : (n : Int) ≤ 24 := by omega
  have MK := makeNodes n hn
  obtain ⟨m0, hm0⟩ : ∃ m0, m0 = Nat.min 1 n := ⟨_, rfl⟩
  have hm1 : m0 ≤ n ∧ m0 ≤ 1 ∧ (0 < n → m0 = 1) := by
    have : Nat.min 1 n = min 1 n := rfl
    omega
  obtain ⟨hma, hmb, hmc⟩ := hm1
  have HM0 : Hid (m0 = Nat.min 1 n) := hm0
  clear hm0
  go_enter Try.func24, Try.ntmps24
  go_wp2_with (first
    | (go_at_call 53; refine (mul_one n hn _).mono ?_; rintro e w1 ⟨rfl, rfl⟩)
    | (refine wpList_copy_wide rfl (.tmp 31) (.tmp 32) 27 27 rfl 38 i0 Try.underlying27 hi0 w1.heap.size 0 n n ⟨xb, 0, none⟩ 1 xc m0 ?hd ?hs (madeCells zeroVs (n * 8)).toList 38 ?hg (patL m0) HM0.out ?hl ?hsrc ?hfit ?h1 ?_))
  case hd => rfl
  case hs => rfl
  case hg => have := heap_alloc_new w1 (.cells (madeCells zeroVs (n * 8)) 38); simpa using this
  case hl => rw [patL_len, hz1]
  case hsrc =>
    intro j v hj
    have hlt : j < m0 * 8 := by
      have := (List.getElem?_eq_some_iff.1 hj).1
      rw [patL_len] at this
      exact this
    rw [patL_good m0 j hlt] at hj
    cases hj
    rw [Addr.add_lit, show j % 8 = j by omega, Nat.zero_add]
    exact ((Below.refl _ _).alloc (Nat.le_refl _) _).cell (World.block_lt_of_cell? _ _ (HX.out j (by omega))) |>.trans (HX.out j (by omega))
  case hfit => rw [patL_len]; simp [size_madeCells]; omega
  case h1 =>
    intro v hv
    unfold patL at hv
    obtain ⟨j, _, rfl⟩ := List.mem_map.1 hv
    exact pat_one _
  intro w2 hg2 hb2
  have G2 : Hid (∃ X : List Value, w2.heap[w1.heap.size]? = some (.cells X.toArray 38 (0, 0)) ∧ X.length = n * 8 ∧ Good X m0) := by
    refine ⟨_, hg2, ?_, fun m hm => ?_⟩
    · simp [patL_len, size_madeCells]
      omega
    · rw [List.getElem?_append_left (by rw [patL_len]; exact hm)]
      exact patL_good m0 m hm
  have HB2 : Hid (Below w1.heap.size w1 w2) := hb2 _ _ ((Below.refl _ _).alloc (Nat.le_refl _) _) (Nat.le_refl _)
  clear hg2 hb2 MK
  go_wp2
  go_loopg [8] n (fun gg s8 wr => ∃ j : Nat, j ≤ n ∧ (0 < n → 1 ≤ j) ∧ n - j ≤ gg ∧ s8 = .int .i64 j ∧ Hid (Below w1.heap.size w1 wr) ∧ Hid (∃ X : List Value, wr.heap[w1.heap.size]? = some (.cells X.toArray 38 (0, 0)) ∧ X.length = n * 8 ∧ Good X j))
  case atStart => exact ⟨m0, hma, fun h => by rw [hmc h]; exact Nat.le_refl _, by omega, rfl, HB2, G2⟩
  case round =>
    clear HB2 G2
    obtain ⟨j, hj, hj1, hgg, rfl, HB, G⟩ := hrel
    by_cases hjn : j < n
    · have hjn2 : (j : Int) < (n : Int) := by omega
      have hj2 : (0 : Int) ≤ (j : Int) := by omega
      obtain ⟨X, hX, hXl, hXG⟩ := G.out
      obtain ⟨m, hm⟩ : ∃ m, m = Nat.min j (n - j) := ⟨_, rfl⟩
      have hm1 : m ≤ j ∧ m ≤ n - j ∧ 0 < m := by
        have : Nat.min j (n - j) = min j (n - j) := rfl
        have := hj1 (by omega)
        omega
      obtain ⟨hma', hmb', hmc'⟩ := hm1
      have HM : Hid (m = Nat.min j (n - j)) := hm
      have HX2 : Hid _ := hX
      have HG : Hid _ := hXG
      clear hm G hX hXG
      have SF := slice_from w1.heap.size n j hjn
      have SU := slice_upto w1.heap.size n j hjn
      go_wp2_with fail
      have L1 : (X.take (m * 8)).length = m * i0.size := by rw [List.length_take, hz1, hXl]; omega
      have L2 : j * 8 + (X.take (m * 8)).length ≤ X.length := by rw [List.length_take, hXl]; omega
      have L3 : Hid _ := good_one HG.out hma' hXl hj
      have L4 : Hid (∀ i v, (X.take (m * 8))[i]? = some v → wr.cell? ((⟨w1.heap.size, 0, none⟩ : Addr).add i) = some v) := good_src HX2.out _
      have L5 : Hid (m * 8 ≤ X.length) := (by rw [hXl]; omega : m * 8 ≤ X.length)
      generalize hY : X.take (m * 8) = Y at *
      have HY : Hid _ := hY
      clear hY
      have hjm : IntKind.i64.wrap ((j : Int) + (m : Int)) = (j : Int) + (m : Int) := by
        rw [IntKind.wrap_i64]
        omega
      go_region_law (refine step_copy_wide rfl (.tmp 41) (.tmp 44) 27 27 rfl 38 i0 Try.underlying27 hi0 w1.heap.size (j * 8) (n - j) (n - j) ⟨w1.heap.size, 0, none⟩ j n m (by go_simp) (by go_simp) X 38 HX2.out Y HM.out L1 L4.out L2 L3.out ?_; intro w4 hg4 hb4; have HG4 : Hid _ := hg4; have HB4 : Hid (Below w1.heap.size w1 w4) := hb4 _ _ HB.out.drew (Nat.le_refl _); clear hg4 hb4)
      go_wp2
      go_roundg (n - (j + m))
      case measure => omega
      case rel =>
        refine ⟨j + m, by omega, fun _ => by omega, by omega, ?_, HB4, (show Hid _ from ⟨_, HG4.out, ?_, ?_⟩)⟩
        · first | go_num | (simp; done)
        · have h5 := L5.out
          have h6 := HY.out
          subst h6
          simp only [List.length_append, List.length_take, List.length_drop]
          omega
        · have h6 := HY.out
          subst h6
          exact Good.copy HG.out hma' (by rw [hXl]; omega)
    · have : j = n := by omega
      subst this
      obtain ⟨X, hX, hXl, hXG⟩ := G.out
      have FIN : Hid (NdsAt wr (some ⟨w1.heap.size, 0, none⟩) (List.replicate j unusedNd)) := good_nds hX hXG
      clear G hX hXG
      go_wp2
      go_ret
      exact ⟨_, rfl, HB.out, FIN.out⟩
end Go.Proofs.Ytiekhgpnmcffiaa

namespace Go.Proofs.Ytiekhgpnmcffiaa
open Go.RowKit

theorem nds_ext {S S' : List Nd} (hl : S.length = S'.length) (h : ∀ i, i < S.length → nd S i = nd S' i) : S = S' :=
  List.ext_getElem hl fun i hi hi' => by
    have := h i hi
    rwa [nd_elem hi, nd_elem hi'] at this

theorem nd_eq_iff (x y : Nd) : x = y ↔ (x.u = y.u ∧ x.n = y.n ∧ x.t = y.t ∧ x.m = y.m ∧ x.p = y.p ∧ x.ks = y.ks ∧ x.h = y.h ∧ x.c = y.c) := by
  constructor
  · rintro rfl
    exact ⟨rfl, rfl, rfl, rfl, rfl, rfl, rfl, rfl⟩
  · obtain ⟨a1, a2, a3, a4, a5, a6, a7, a8⟩ := x
    obtain ⟨b1, b2, b3, b4, b5, b6, b7, b8⟩ := y
    rintro ⟨rfl, rfl, rfl, rfl, rfl, rfl, rfl, rfl⟩
    rfl

theorem sameNode_eq (x y : Nd) (ka ka' : Option Addr) (kc kc' : Nat) (w : World) (hbig : x.ks.length ≤ 9223372036854775807) (h1 : IntsAt w ka x.ks) (h2 : IntsAt w ka' y.ks) :
    Calls Try.prog 51 #[.agg #[.bool x.u, .int .i64 x.n, .int .i64 x.t, .int .i64 x.m, .int .i64 x.p, .slice ka x.ks.length kc, .int .i64 x.h, .bool x.c], .agg #[.bool y.u, .int .i64 y.n, .int .i64 y.t, .int .i64 y.m, .int .i64 y.p, .slice ka' y.ks.length kc', .int .i64 y.h, .bool y.c]] w fun e w' => ∃ r : Bool, e = .returned (.bool r) ∧ Below w.heap.size w w' ∧ (r = true ↔ x = y) := by
  refine (sameNode_any x.u y.u x.n y.n x.t y.t x.m y.m x.p y.p x.ks y.ks ka ka' kc kc' x.h y.h x.c y.c w hbig h1 h2).mono ?_
  rintro e w' ⟨rfl, hb⟩
  exact ⟨_, rfl, hb, by rw [decide_eq_true_iff, nd_eq_iff]⟩

set_option maxHeartbeats 1000000 in
theorem equalNodes_any (a a' : Option Addr) (c c' : Nat) (S S' : List Nd) (w : World) (hN : S.length ≤ 9223372036854775807) (hB : Big S) (h1 : NdsAt w a S) (h2 : NdsAt w a' S') :
    Calls Try.prog 50 #[.slice a S.length c, .slice a' S'.length c', .func (.func 51) #[] #[]] w fun e w' => ∃ r : Bool, e = .returned (.bool r) ∧ Below w.heap.size w w' ∧ (r = true ↔ S = S') := by
  have eg := enters_of Try.func51 (by kernel_rfl) rfl
  by_cases hl : S.length = S'.length
  · have E1 : Hid ((∀ i, i < S.length → nd S i = nd S' i) → S = S') := fun h => nds_ext hl h
    have E2 : Hid (∀ i, nd S i ≠ nd S' i → S ≠ S') := fun i h e => h (by rw [e])
    have H1 : Hid (NdsAt w a S) := h1
    have H2 : Hid (NdsAt w a' S') := h2
    have HB : Hid (Big S) := hB
    have HL : Hid (S'.length = S.length) := hl.symm
    rw [← hl]
    clear h1 h2 hB hl
    generalize hn : S.length = n at *
    have HN : Hid _ := hn
    clear hn
    go_enter Try.func50, Try.ntmps50
    go_wp2
    go_loopg [17] n (fun g s17 wr => ∃ k : Nat, k ≤ n ∧ n - k ≤ g ∧ s17 = .int .i64 k ∧ Below w.heap.size w wr ∧ Hid (∀ i, i < k → nd S i = nd S' i))
    case atStart => exact ⟨0, by omega, by omega, rfl, Below.refl _ _, fun i hi => by omega⟩
    case round =>
      obtain ⟨k, hk, hg, rfl, hb, A⟩ := hrel
      by_cases hlt : k < n
      · have hlt2 : (k : Int) < (n : Int) := by omega
        obtain ⟨b, o, rfl, c0, c1, c2, c3, c4, ⟨ka, kc, c5, hk1⟩, c6, c7⟩ := (H1.out.below hb) k (by rw [HN.out]; exact hlt)
        obtain ⟨b', o', rfl, e0, e1, e2, e3, e4, ⟨ka', kc', e5, hk2⟩, e6, e7⟩ := (H2.out.below hb) k (by rw [HL.out]; exact hlt)
        have hbb := World.block_lt_of_cell? _ _ c0
        have hbb' := World.block_lt_of_cell? _ _ e0
        have d1 := fun o1 o2 => sameNode_eq (nd S k) (nd S' k) ka ka' kc kc' ((wr.alloc o1).alloc o2) (HB.out k (by rw [HN.out]; exact hlt)) (hk1.below (two_below _ _ _)) (hk2.below (two_below _ _ _))
        have EK := E2.out k
        have EK2 : Hid _ := EK
        have KK : Hid (nd S k = nd S' k → ∀ i, i < k + 1 → nd S i = nd S' i) := fun h i hi => by
          by_cases e : i = k
          · subst e; exact h
          · exact A.out i (by omega)
        clear EK hk1 hk2
        have D1 : Hid _ := d1
        clear d1
        generalize nd S k = x at *
        generalize nd S' k = y at *
        go_wp2_with fail
        refine (D1.out _ _).mono ?_
        rintro e w3 ⟨r, rfl, hb3, hr⟩
        cases r with
        | true =>
          have HR : Hid _ := hr.1 rfl
          clear hr
          go_wp2
          go_roundg (n - (k + 1))
          case measure => omega
          case rel => exact ⟨k + 1, by omega, by omega, by go_num, (hb.trans ((two_below _ _ _).mono hb.size)).trans (hb3.mono (by simp; have := hb.size; omega)), KK.out HR.out⟩
        | false =>
          have HR : Hid (S ≠ S') := EK2.out fun e => by have := hr.2 e; cases this
          clear hr
          go_wp2
          go_ret
          exact ⟨false, rfl, (hb.trans ((two_below _ _ _).mono hb.size)).trans (hb3.mono (by simp; have := hb.size; omega)), ⟨fun h => (by cases h), fun h => absurd h HR.out⟩⟩
      · have : k = n := by omega
        subst this
        go_wp2
        go_ret
        exact ⟨true, rfl, hb, ⟨fun _ => E1.out A.out, fun _ => rfl⟩⟩
  · have hl' : ¬ ((S.length : Int) = (S'.length : Int)) := by omega
    have HNE : Hid (S ≠ S') := fun e => hl (by rw [e])
    clear h1 h2 hB
    generalize S.length = n at *
    generalize S'.length = n' at *
    go_enter Try.func50, Try.ntmps50
    go_wp2
    go_ret
    exact ⟨false, rfl, Below.refl _ _, ⟨fun h => (by cases h), fun h => absurd h HNE.out⟩⟩

set_option maxHeartbeats 400000 in
theorem same_any (a a' : Option Addr) (c c' : Nat) (S S' : List Nd) (w : World) (hN : S.length ≤ 9223372036854775807) (hB : Big S) (h1 : NdsAt w a S) (h2 : NdsAt w a' S') :
    Calls Try.prog 20 #[.agg #[.slice a S.length c], .agg #[.slice a' S'.length c']] w fun e w' => ∃ r : Bool, e = .returned (.bool r) ∧ Below w.heap.size w w' ∧ (r = true ↔ S = S') := by
  have D1 : Hid _ := fun o1 o2 => equalNodes_any a a' c c' S S' ((w.alloc o1).alloc o2) hN hB (h1.below (two_below _ _ _)) (h2.below (two_below _ _ _))
  clear h1 h2 hB
  generalize S.length = n at *
  generalize S'.length = n' at *
  go_enter Try.func20, Try.ntmps20
  go_wp2_with (go_at_call 50; refine (D1.out _ _).mono ?_; rintro e w1 ⟨r, rfl, hb, hr⟩; have HR : Hid _ := hr; clear hr)
  go_ret
  exact ⟨r, rfl, (two_below _ _ _).trans (hb.mono (by simp; omega)), HR.out⟩
end Go.Proofs.Ytiekhgpnmcffiaa
