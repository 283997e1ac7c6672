/-
  The contract of Attach where a root is made.
-/
import Derived.Test.YtjlapfgghljidabUZf
import Derived.Test.YtjlapfgghljidabUZaUeZp
namespace Go.Proofs.Ytjlapfgghljidab
open Go.RowKit

theorem att_low {w w1 : World} {a : Option Addr} {n c : Nat} {p u : Int} (hb : Below (w.heap.size + 1 + 1 + 1 + 1) ((((w.alloc (.cells #[.slice a n c] 24)).alloc (.cells #[.int .i64 p, .int .i64 u] 26)).alloc (.cells #[.slice none 0 0] 24)).alloc (.cells #[.int .i64 0, .int .i64 0] 26)) w1) :
    w1.cell? ⟨w.heap.size, 0, none⟩ = some (.slice a n c) ∧ w1.cell? ⟨w.heap.size + 1, 0, none⟩ = some (.int .i64 p) ∧ w1.cell? ⟨w.heap.size + 1, 1, none⟩ = some (.int .i64 u) ∧ w1.cell? ⟨w.heap.size + 1 + 1, 0, none⟩ = some (.slice none 0 0) ∧ w1.cell? ⟨w.heap.size + 1 + 1 + 1, 0, none⟩ = some (.int .i64 0) ∧ w1.cell? ⟨w.heap.size + 1 + 1 + 1, 1, none⟩ = some (.int .i64 0) ∧ (∀ o, w1.frozen? ⟨w.heap.size + 1 + 1, o, none⟩ = false) ∧ (∀ o, w1.frozen? ⟨w.heap.size + 1 + 1 + 1, o, none⟩ = false) := by
  refine ⟨?_, ?_, ?_, ?_, ?_, ?_, fun o => ?_, fun o => ?_⟩
  all_goals first | exact (hb.cell (by first | (simp; done) | (simp; omega))).trans (by go_simp) | exact (hb.frozen (by first | (simp; done) | (simp; omega))).trans (by go_simp)

set_option maxRecDepth 100000 in
set_option maxHeartbeats 2000000 in
theorem attach_ok (a : Option Addr) (c : Nat) (S : List Nd) (k f : Nat) (u : Int) (cl : Bool) (w : World) (wf : WF S) (hS : NdsAt w a S) (hk : k < S.length) (hE : findE S k u = 0) (hH : hostB S k = false) (hf : f < S.length) (hfr : freeB (nd S f) = true) (hall : ∀ i, i < f → freeB (nd S i) = false) :
    Calls Try.prog 25 #[.agg #[.slice a S.length c], .agg #[.int .i64 (k : Int), .int .i64 u], .bool cl] w fun e w' => ∃ g, e = .returned (.tuple #[.agg #[.slice (some ⟨g, 0, none⟩) S.length S.length], .agg #[.int .i64 (f : Int), .int .i64 ((nd S f).n + 1)], .int .i64 0]) ∧ Below w.heap.size w w' ∧ w.heap.size ≤ g ∧ OwnR w' g (S.set f (rootNd (nd S f) k cl)) := by
  have hN := wf.small
  have D0 : Hid (∀ W, NdsAt W a S → Calls _ _ _ _ _) := fun W hW => find_ok a c S k u W (by omega) wf.big hW hk hE (by have := wf.kids_small hk; omega)
  have d1 := fun W hW => isHost_any a c S (k : Int) W (by omega) hW (by omega)
  rw [hH] at d1
  have D1 : Hid _ := d1
  have D2 : Hid (∀ W, NdsAt W a S → Calls _ _ _ _ _) := fun W hW => make_own a c S 0 W hN (fun i hi => by have := wf.kids_small hi; omega) hW ((wf_iff _).2 wf) (by omega) (by omega) f hf hfr (wf.uses hf).1 hall
  have HS : Hid (NdsAt w a S) := hS
  have RT : Hid (∀ W g, OwnR W g (S.set f (madeNd (nd S f) 0)) → OwnR ((W.setCell ⟨g, f * 8 + 6, none⟩ (.int .i64 (k : Int))).setCell ⟨g, f * 8 + 7, none⟩ (.bool cl)) g (S.set f (rootNd (nd S f) k cl))) := fun W g h => by
    have h2 := h.root (k := f) (by simpa using hf) (k : Int) cl
    rw [nd_set S f f _ hf, if_pos rfl, List.set_set] at h2
    exact h2
  have RC : Hid (∀ W g, OwnR W g (S.set f (madeNd (nd S f) 0)) → g < W.heap.size ∧ (∀ o, W.frozen? ⟨g, o, none⟩ = false) ∧ (∃ v6 v7, W.cell? ⟨g, f * 8 + 6, none⟩ = some v6 ∧ W.cell? ⟨g, f * 8 + 7, none⟩ = some v7)) := fun W g ⟨F, hF, _⟩ => by
    rw [List.length_set] at hF
    exact ⟨hF.lt, hF.frozen, _, _, hF.cell (by omega), hF.cell (by omega)⟩
  have hf2 : (f : Int) < (S.length : Int) := by omega
  have hf3 : decide ((f : Int) < 0) = false := decide_eq_false (by omega)
  clear hS wf hE hH hfr hall d1
  obtain ⟨x0, hx0⟩ : ∃ x, nd S k = x := ⟨_, rfl⟩
  rw [hx0] at D0
  clear hx0
  obtain ⟨S1, hS1⟩ : ∃ S1, S.set f (madeNd (nd S f) 0) = S1 := ⟨_, rfl⟩
  obtain ⟨S2, hS2⟩ : ∃ S2, S.set f (rootNd (nd S f) k cl) = S2 := ⟨_, rfl⟩
  rw [hS1] at D2 RT RC
  rw [hS2] at RT ⊢
  clear hS1 hS2
  generalize (nd S f).n = nf at *
  generalize S.length = n at *
  go_enter Try.func25, Try.ntmps25
  go_wp2_with fail
  refine Calls.mono (D0.out _ (HS.out.below (four_below _ _ _ _ _))) ?_
  rintro e w2 ⟨fg, rfl, hb2, _⟩
  simp only [World.size_alloc] at hb2
  have HB2 : Hid (Below (w.heap.size + 1 + 1 + 1 + 1) ((((w.alloc (.cells #[.slice a n c] 24)).alloc (.cells #[.int .i64 (k : Int), .int .i64 u] 26)).alloc (.cells #[.slice none 0 0] 24)).alloc (.cells #[.int .i64 0, .int .i64 0] 26)) w2) := hb2
  have hs2 := hb2.size
  simp only [World.size_alloc] at hs2
  obtain ⟨l0, l1, l2, l3, l4, l5, l6, l7⟩ := att_low hb2
  have BW : Hid (∀ W, Below (w.heap.size + 1 + 1 + 1 + 1) ((((w.alloc (.cells #[.slice a n c] 24)).alloc (.cells #[.int .i64 (k : Int), .int .i64 u] 26)).alloc (.cells #[.slice none 0 0] 24)).alloc (.cells #[.int .i64 0, .int .i64 0] 26)) W → Below w.heap.size w W) := fun W h => (four_below _ _ _ _ _).trans (h.mono (by omega))
  clear hb2
  have q0 : w.heap.size < w2.heap.size := by omega
  have q1 : w.heap.size + 1 < w2.heap.size := by omega
  go_wp2_with fail
  refine Calls.mono (D1.out _ (HS.out.below (BW.out _ (HB2.out.alloc (by omega) _)))) ?_
  rintro e w3 ⟨rfl, hb3⟩
  simp only [World.size_alloc] at hb3
  have HB3 : Hid (Below (w.heap.size + 1 + 1 + 1 + 1) ((((w.alloc (.cells #[.slice a n c] 24)).alloc (.cells #[.int .i64 (k : Int), .int .i64 u] 26)).alloc (.cells #[.slice none 0 0] 24)).alloc (.cells #[.int .i64 0, .int .i64 0] 26)) w3) := (HB2.out.alloc (by omega) _).trans (hb3.mono (by omega))
  have hs3 := hb3.size
  simp only [World.size_alloc] at hs3
  clear hb3 l0 l1 l2 l3 l4 l5 l6 l7
  obtain ⟨l0, l1, l2, l3, l4, l5, l6, l7⟩ := att_low HB3.out
  go_wp2_with fail
  refine Calls.mono (D2.out _ (HS.out.below (BW.out _ HB3.out))) ?_
  rintro e w4 ⟨g, rfl, hb4, hg4, hO4⟩
  have HB4 : Hid (Below (w.heap.size + 1 + 1 + 1 + 1) ((((w.alloc (.cells #[.slice a n c] 24)).alloc (.cells #[.int .i64 (k : Int), .int .i64 u] 26)).alloc (.cells #[.slice none 0 0] 24)).alloc (.cells #[.int .i64 0, .int .i64 0] 26)) w4) := HB3.out.trans (hb4.mono (by omega))
  have hs4 := hb4.size
  clear hb4 l0 l1 l2 l3 l4 l5 l6 l7
  obtain ⟨l0, l1, l2, l3, l4, l5, l6, l7⟩ := att_low HB4.out
  obtain ⟨hgl, hfz, v6, v7, d6, d7⟩ := RC.out _ _ hO4
  have HO4 : Hid (OwnR w4 g S1) := hO4
  have e1 : ¬ g = w.heap.size + 1 := by omega
  have e2 : ¬ w.heap.size + 1 = g := by omega
  have e3 : ¬ g = w.heap.size + 1 + 1 := by omega
  have e4 : ¬ w.heap.size + 1 + 1 = g := by omega
  have e5 : ¬ g = w.heap.size + 1 + 1 + 1 := by omega
  have e6 : ¬ w.heap.size + 1 + 1 + 1 = g := by omega
  have q2 : w.heap.size + 1 < w4.heap.size := by omega
  have q3 : w.heap.size + 1 + 1 < w4.heap.size := by omega
  have q4 : w.heap.size + 1 + 1 + 1 < w4.heap.size := by omega
  have q5 : w.heap.size < w4.heap.size := by omega
  clear hO4 D0 D1 D2
  go_wp2_with fail
  first
    | (obtain ⟨W6, hW6⟩ : ∃ W6, W6 = ((((w4.setCell ⟨g, f * 8 + 6, none⟩ (.int .i64 (k : Int))).setCell ⟨g, f * 8 + 7, none⟩ (.bool cl)).alloc (.cells #[.slice (some ⟨g, 0, none⟩) n n] 24)).alloc (.cells #[.int .i64 (f : Int), .int .i64 (nf + 1)] 26)) := ⟨_, rfl⟩; rw [← hW6])
    | (obtain ⟨W6, hW6⟩ : ∃ W6, W6 = ((((w4.alloc (.cells #[.slice (some ⟨g, 0, none⟩) n n] 24)).alloc (.cells #[.int .i64 (f : Int), .int .i64 (nf + 1)] 26)).setCell ⟨g, f * 8 + 6, none⟩ (.int .i64 (k : Int))).setCell ⟨g, f * 8 + 7, none⟩ (.bool cl)) := ⟨_, rfl⟩; rw [← hW6])
  have HR6 : Hid (OwnR W6 g S2) := by
    rw [hW6]
    first
      | exact (RT.out w4 g HO4.out).up (fun b _ hlt => (((Below.refl _ _).alloc (Nat.le_refl _) _).alloc (by simp) _).block b hlt)
      | exact RT.out _ g (HO4.out.up (fun b _ hlt => (((Below.refl _ _).alloc (Nat.le_refl _) _).alloc (by simp) _).block b hlt))
  have hs6 : W6.heap.size = w4.heap.size + 1 + 1 := by rw [hW6]; simp
  have HB6 : Hid (Below w.heap.size w W6) := by
    rw [hW6]
    first
      | exact ((((BW.out _ HB4.out).setCell (by simp; omega) _).setCell (by simp; omega) _).alloc (by simp; omega) _).alloc (by simp; omega) _
      | exact ((((BW.out _ HB4.out).alloc (by omega) _).alloc (by simp; omega) _).setCell (by simp; omega) _).setCell (by simp; omega) _
  have y0 : W6.cell? ⟨w4.heap.size, 0, none⟩ = some (.slice (some ⟨g, 0, none⟩) n n) := by rw [hW6]; go_simp
  have y1 : W6.cell? ⟨w4.heap.size + 1, 0, none⟩ = some (.int .i64 (f : Int)) := by rw [hW6]; go_simp
  have y2 : W6.cell? ⟨w4.heap.size + 1, 1, none⟩ = some (.int .i64 (nf + 1)) := by rw [hW6]; go_simp
  have y3 : W6.cell? ⟨w.heap.size + 1 + 1, 0, none⟩ = some (.slice none 0 0) := by rw [hW6]; go_simp
  have y4 : W6.cell? ⟨w.heap.size + 1 + 1 + 1, 0, none⟩ = some (.int .i64 0) := by rw [hW6]; go_simp
  have y5 : W6.cell? ⟨w.heap.size + 1 + 1 + 1, 1, none⟩ = some (.int .i64 0) := by rw [hW6]; go_simp
  have y6 : ∀ o, W6.frozen? ⟨w.heap.size + 1 + 1, o, none⟩ = false := fun o => by rw [hW6]; go_simp
  have y7 : ∀ o, W6.frozen? ⟨w.heap.size + 1 + 1 + 1, o, none⟩ = false := fun o => by rw [hW6]; go_simp
  have z1 : w4.heap.size < W6.heap.size := by omega
  have z2 : w4.heap.size + 1 < W6.heap.size := by omega
  have z3 : w.heap.size + 1 + 1 < W6.heap.size := by omega
  have z4 : w.heap.size + 1 + 1 + 1 < W6.heap.size := by omega
  have z5 : ¬ w4.heap.size = w.heap.size + 1 + 1 := by omega
  have z6 : ¬ w4.heap.size + 1 = w.heap.size + 1 + 1 := by omega
  have z7 : ¬ w4.heap.size = w.heap.size + 1 + 1 + 1 := by omega
  have z8 : ¬ w4.heap.size + 1 = w.heap.size + 1 + 1 + 1 := by omega
  clear hW6 l0 l1 l2 l3 l4 l5 l6 l7 d6 d7 hfz
  go_region
  all_goals (try go_wp2)
  all_goals
    refine bodyPost_ret (v := .tuple #[.agg #[.slice (some ⟨g, 0, none⟩) n n], .agg #[.int .i64 (f : Int), .int .i64 (nf + 1)], .int .i64 0]) (by simp [results, Try.results25, go_sem, y3, y4, y5]) rfl ⟨g, rfl, ?_, by omega, ?_⟩
    · first
        | exact (((HB6.out.setCell (by simp; omega) _).setCell (by simp; omega) _).setCell (by simp; omega) _).drew
        | exact ((HB6.out.setCell (by simp; omega) _).setCell (by simp; omega) _).setCell (by simp; omega) _
    · refine HR6.out.up (fun b hb hlt => ?_)
      first
        | rw [heap_drew, Below.heap_setCell _ _ _ _ (by show b ≠ w.heap.size + 1 + 1 + 1; omega), Below.heap_setCell _ _ _ _ (by show b ≠ w.heap.size + 1 + 1 + 1; omega), Below.heap_setCell _ _ _ _ (by show b ≠ w.heap.size + 1 + 1; omega)]
        | rw [Below.heap_setCell _ _ _ _ (by show b ≠ w.heap.size + 1 + 1 + 1; omega), Below.heap_setCell _ _ _ _ (by show b ≠ w.heap.size + 1 + 1 + 1; omega), Below.heap_setCell _ _ _ _ (by show b ≠ w.heap.size + 1 + 1; omega)]
end Go.Proofs.Ytjlapfgghljidab

namespace Go.Proofs.Ytjlapfgghljidab
open Go.RowKit

set_option maxHeartbeats 2000000 in
theorem climb_cnt {σ : Type} (a : Option Addr) (c : Nat) (S : List Nd) (w : World) (place : Int) (KU KV : Nat) (caps : Array Value) (up : Nd → Int) (step : σ → Int → σ × Bool) (I : Nat → σ → World → Prop) (X : Nat → Prop) (st : σ)
    (hN : S.length ≤ 9223372036854775807)
    (hIS : ∀ k st w1, I k st w1 → NdsAt w1 a S)
    (hI : ∀ k st w1 w2, I k st w1 → Below w1.heap.size w1 w2 → I k st w2)
    (eU : ∀ args w, (callFunc KU args).run Try.prog w = .ok (.enter KU args) w) (eV : ∀ args w, (callFunc KV args).run Try.prog w = .ok (.enter KV args) w)
    (hU : ∀ (x : Nd) (k : Value) (w1 : World), Calls Try.prog KU #[.agg #[.bool x.u, .int .i64 x.n, .int .i64 x.t, .int .i64 x.m, .int .i64 x.p, k, .int .i64 x.h, .bool x.c]] w1 fun e w2 => e = .returned (.int .i64 (up x)) ∧ Below w1.heap.size w1 w2)
    (hV : ∀ i st x w1, i < S.length → I i st w1 → w.heap.size < w1.heap.size → isPl S.length x = true → Calls Try.prog KV (#[.int .i64 x] ++ caps) w1 fun e w2 => e = .returned (.bool (step st x).2) ∧ I (i + 1) (step st x).1 w2 ∧ Off X w1 w2 ∧ ∀ k : Nat, w1.heap[k]? = some (.cells #[.slice a S.length c] 24 (0, 0)) → w2.heap[k]? = w1.heap[k]?)
    (h0 : I 0 st w) :
    Calls Try.prog 81 #[.agg #[.slice a S.length c], .int .i64 place, .func (.func KU) #[] #[], .func (.func KV) #[] caps] w fun e w' => e = .returned (.tuple #[]) ∧ (∃ i, i ≤ S.length ∧ I i (if isPl S.length place then climbF S up step S.length (up (nd S place.toNat)) st else st) w') ∧ Off X w w' := by
  have hN2 : Hid (S.length = S.length) := rfl
  have IS : Hid (∀ k st w1, I k st w1 → NdsAt w1 a S) := hIS
  have HI : Hid (∀ k st w1 w2, I k st w1 → Below w1.heap.size w1 w2 → I k st w2) := hI
  have HV : Hid (∀ i st x w1, i < S.length → I i st w1 → w.heap.size < w1.heap.size → isPl S.length x = true → Calls Try.prog KV (#[.int .i64 x] ++ caps) w1 fun e w2 => e = .returned (.bool (step st x).2) ∧ I (i + 1) (step st x).1 w2 ∧ Off X w1 w2 ∧ ∀ k : Nat, w1.heap[k]? = some (.cells #[.slice a S.length c] 24 (0, 0)) → w2.heap[k]? = w1.heap[k]?) := hV
  have H0 : Hid (I 0 st w) := h0
  clear hIS hI hV h0
  have hp := fun W => isPlace_any a c S.length place W hN
  generalize hn : S.length = n at *
  have HN : Hid (S.length = n) := hn
  clear hn hN2
  cases hq : isPl n place with
  | false =>
    rw [hq] at hp
    simp only [Bool.false_eq_true, if_false]
    go_enter Try.func81, Try.ntmps81
    go_wp2_with (go_at_call 80; refine (hp _).mono ?_; rintro e w' ⟨rfl, hb⟩)
    refine bodyPost_ret (v := .tuple #[]) (by simp [results, Try.results81, go_sem]) rfl ⟨rfl, ?_, ?_⟩
    · exact ⟨0, Nat.zero_le _, HI.out _ _ _ _ H0.out (((Below.refl _ _).alloc (Nat.le_refl _) _).trans (hb.mono (by simp)))⟩
    · exact Off.of_below (((Below.refl _ _).alloc (Nat.le_refl _) _).trans (hb.mono (by simp)))
  | true =>
    rw [hq] at hp
    simp only [if_true]
    have hq' : 0 ≤ place ∧ place ≤ (n : Int) - 1 := of_decide_eq_true hq
    clear hq
    obtain ⟨p, rfl⟩ : ∃ p : Nat, place = (p : Int) := ⟨place.toNat, by omega⟩
    have hpn : p < n := by omega
    have hpn2 : (p : Int) < (n : Int) := by omega
    clear hq'
    simp only [Int.toNat_natCast]
    go_enter Try.func81, Try.ntmps81
    go_wp2_with (first
      | (go_at_call 80; refine (hp _).mono ?_; rintro e w1 ⟨rfl, hb1⟩; simp only [World.size_alloc] at hb1; have hB1 : Below w.heap.size w w1 := ((Below.refl _ _).alloc (Nat.le_refl _) _).trans (hb1.mono (by simp)); have lb : w1.cell? ⟨w.heap.size, 0, none⟩ = some (.slice a n c) := (hb1.cell (by simp)).trans (by go_simp); have hx1 : Hid (w1.heap[w.heap.size]? = some (.cells #[.slice a n c] 24 (0, 0))) := (hb1.block _ (by simp)).trans (heap_alloc_new _ _); obtain ⟨b, o, rfl, c0, c1, c2, c3, c4, ⟨ka, kc, c5, _⟩, c6, c7⟩ := IS.out _ _ _ (HI.out _ _ _ _ H0.out hB1) p (by rw [HN.out]; exact hpn))
      | (go_at_fn KU; refine (hU (nd S p) _ _).mono ?_; rintro e w2 ⟨rfl, hb2⟩; have lb2 : w2.cell? ⟨w.heap.size, 0, none⟩ = some (.slice (some ⟨b, o, none⟩) n c) := (hb2.cell (World.block_lt_of_cell? _ _ lb)).trans lb))
    have HX2 : Hid (w2.heap[w.heap.size]? = some (.cells #[.slice (some ⟨b, o, none⟩) n c] 24 (0, 0))) := (hb2.block _ (World.block_lt_of_cell? _ _ lb)).trans hx1.out
    clear hx1
    have hB2 : Below w.heap.size w w2 := hB1.trans (hb2.mono hB1.size)
    have hsz1 : w.heap.size < w1.heap.size := World.block_lt_of_cell? _ _ lb
    have hsz2 : w.heap.size < w2.heap.size := World.block_lt_of_cell? _ _ lb2
    have I2 : Hid (I 0 st w2) := HI.out _ _ _ _ H0.out hB2
    have O2 : Hid (Off X w w2) := Off.of_below hB2
    clear c0 c1 c2 c3 c4 c5 c6 c7 hb1 hb2 lb hB1 hsz1 hp
    go_loopg [8, 23] n (fun g s8 s23 wr => ∃ (k : Nat) (x : Int) (s : σ), k ≤ n ∧ n - k ≤ g ∧ s23 = .int .i64 k ∧ s8 = .int .i64 x ∧ Hid (I k s wr) ∧ Hid (Off X w wr) ∧ w.heap.size < wr.heap.size ∧ wr.cell? ⟨w.heap.size, 0, none⟩ = some (.slice (some ⟨b, o, none⟩) n c) ∧ Hid (wr.heap[w.heap.size]? = some (.cells #[.slice (some ⟨b, o, none⟩) n c] 24 (0, 0))) ∧ Hid (climbF S up step n (up (nd S p)) st = climbF S up step (n - k) x s))
    case atStart => exact ⟨0, up (nd S p), st, by omega, by omega, rfl, rfl, I2, O2, hsz2, lb2, HX2, rfl⟩
    case round =>
      obtain ⟨k, x, s, hk, hg, rfl, rfl, I3, O3, hsz3, lb3, HX3, E3⟩ := hrel
      clear I2 O2 hsz2 lb2 hB2 HX2
      by_cases hlt : k < n
      · obtain ⟨f, hf⟩ : ∃ f, n - k = f + 1 := ⟨n - k - 1, by omega⟩
        have EQ := E3.out
        rw [hf] at EQ
        simp only [climbF, HN.out] at EQ
        have hp := fun W => isPlace_any (some ⟨b, o, none⟩) c n x W hN
        cases hq : isPl n x with
        | false =>
          rw [hq] at hp EQ
          simp only [Bool.false_eq_true, if_false] at EQ
          have E4 : Hid (climbF S up step n (up (nd S p)) st = s) := EQ
          clear EQ
          go_wp2_with (go_at_call 80; refine (hp _).mono ?_; rintro e w3 ⟨rfl, hb3⟩)
          refine bodyPost_ret (v := .tuple #[]) (by simp [results, Try.results81, go_sem]) rfl ⟨rfl, ?_, ?_⟩
          · rw [E4.out]; exact ⟨k, by omega, HI.out _ _ _ _ I3.out hb3⟩
          · exact O3.out.trans (Off.of_below hb3)
        | true =>
          rw [hq] at hp EQ
          simp only [if_true] at EQ
          have hq' : 0 ≤ x ∧ x ≤ (n : Int) - 1 := of_decide_eq_true hq
          obtain ⟨j, rfl⟩ : ∃ j : Nat, x = (j : Int) := ⟨x.toNat, by omega⟩
          have hjn : j < n := by omega
          have hjn2 : (j : Int) < (n : Int) := by omega
          clear hq'
          simp only [Int.toNat_natCast] at EQ
          have hv := fun W (hW : I k s W) (hz : w.heap.size < W.heap.size) => HV.out k s (j : Int) W hlt hW hz hq
          clear hq
          generalize hst : step s (j : Int) = sr at *
          obtain ⟨s', r⟩ := sr
          dsimp only at hv EQ
          have EQ2 : Hid _ := EQ
          clear EQ hst
          cases r with
          | false =>
            have E4 : climbF S up step n (up (nd S p)) st = s' := by simpa using EQ2.out
            have E5 : Hid _ := E4
            clear E4
            go_wp2_with (first
              | (go_at_call 80; refine (hp _).mono ?_; rintro e w3 ⟨rfl, hb3⟩)
              | (go_at_fn KV; refine (hv _ (HI.out _ _ _ _ I3.out hb3) (Nat.lt_of_lt_of_le hsz3 hb3.size)).mono ?_; rintro e w4 ⟨rfl, I4, O4, _⟩))
            refine bodyPost_ret (v := .tuple #[]) (by simp [results, Try.results81, go_sem]) rfl ⟨rfl, ?_, ?_⟩
            · rw [E5.out]; exact ⟨k + 1, by omega, I4⟩
            · exact (O3.out.trans (Off.of_below hb3)).trans O4
          | true =>
            have E4 : climbF S up step n (up (nd S p)) st = climbF S up step f (up (nd S j)) s' := by simpa using EQ2.out
            have E5 : Hid _ := E4
            clear E4
            have fr : ∀ w3 w4 : World, Below wr.heap.size wr w3 → (∀ k : Nat, w3.heap[k]? = some (.cells #[.slice (some ⟨b, o, none⟩) n c] 24 (0, 0)) → w4.heap[k]? = w3.heap[k]?) → w4.heap[w.heap.size]? = some (.cells #[.slice (some ⟨b, o, none⟩) n c] 24 (0, 0)) := fun w3 w4 h3 h4 =>
              (h4 _ ((h3.block _ hsz3).trans HX3.out)).trans ((h3.block _ hsz3).trans HX3.out)
            have FR : Hid _ := fr
            clear fr
            go_wp2_with (first
              | (go_at_call 80; refine (hp _).mono ?_; rintro e w3 ⟨rfl, hb3⟩)
              | (go_at_fn KV; refine (hv _ (HI.out _ _ _ _ I3.out hb3) (Nat.lt_of_lt_of_le hsz3 hb3.size)).mono ?_; rintro e w4 ⟨rfl, I4, O4, T4⟩; have HX4 : Hid (w4.heap[w.heap.size]? = some (.cells #[.slice (some ⟨b, o, none⟩) n c] 24 (0, 0))) := FR.out w3 w4 hb3 T4; have lb4 := box_cell HX4.out; clear T4; have II4 : Hid (I (k + 1) s' w4) := I4; clear I4; obtain ⟨b', o', e', c0, c1, c2, c3, c4, ⟨ka, kc, c5, _⟩, c6, c7⟩ := IS.out _ _ _ II4.out j (by rw [HN.out]; exact hjn); cases e')
              | (go_at_fn KU; refine (hU (nd S j) _ _).mono ?_; rintro e w5 ⟨rfl, hb5⟩))
            go_roundg (n - (k + 1))
            case measure => omega
            case rel =>
              refine ⟨k + 1, up (nd S j), s', by omega, by omega, by go_num, rfl, HI.out _ _ _ _ II4.out hb5, (O3.out.trans (Off.of_below hb3)).trans (O4.trans (Off.of_below hb5)), ?_, (hb5.cell (World.block_lt_of_cell? _ _ lb4)).trans lb4, (hb5.block _ (World.block_lt_of_cell? _ _ lb4)).trans HX4.out, ?_⟩
              · have := World.block_lt_of_cell? _ _ lb4
                have h5 := hb5.size
                have : w.heap.size < w4.heap.size := this
                omega
              · rw [show n - (k + 1) = f by omega]; exact E5
      · have hk' : k = n := by omega
        subst hk'
        have EQ := E3.out
        rw [Nat.sub_self] at EQ
        have E4 : Hid (climbF S up step k (up (nd S p)) st = s) := EQ
        clear EQ E3
        go_wp2
        refine bodyPost_end (v := .tuple #[]) (by simp [results, Try.results81, go_sem]) rfl ⟨rfl, ?_, O3.out⟩
        rw [E4.out]; exact ⟨k, Nat.le_refl _, I3.out⟩

/-- The path so far lies in memory of the call's own. -/
def PathI (W : World) (a : Option Addr) (S : List Nd) (bf : Nat) (i : Nat) (st : List Int) (w1 : World) : Prop :=
  Below W.heap.size W w1 ∧ NdsAt W a S ∧ W.heap.size ≤ bf ∧ st.length = i + 1 ∧ ∃ v, w1.heap[bf]? = some (.cells #[v] 27 (0, 0)) ∧ w1.ownsRow W.heap.size 3 1 v st.length (st.map (Value.int .i64))

theorem PathI.below {W w1 w2 : World} {a : Option Addr} {S : List Nd} {bf i : Nat} {st : List Int} (h : PathI W a S bf i st w1) (hb : Below w1.heap.size w1 w2) : PathI W a S bf i st w2 := by
  obtain ⟨hB, hS, hbf, hl, v, hc, hown⟩ := h
  have hbw := (Array.getElem?_eq_some_iff.1 hc).1
  exact ⟨hB.trans (hb.mono hB.size), hS, hbf, hl, v, (hb.block _ hbw).trans hc, hown.kept (row := none) ⟨hb.os, hb.tape, hb.output, hb.size, fun k hk _ => hb.block k hk⟩ (by
    cases hv : v.ownBlock with
    | none => exact Or.inl rfl
    | some k => exact Or.inr (fun e => by cases e))⟩

theorem PathI.step {W w1 w2 : World} {a : Option Addr} {S : List Nd} {bf i : Nat} {st : List Int} (x : Int) (h : PathI W a S bf i st w1) {v v' : Value} (hc : w1.heap[bf]? = some (.cells #[v] 27 (0, 0))) (o1 : Obj)
    (hown : w1.ownsRow W.heap.size 3 1 v st.length (st.map (Value.int .i64)))
    (hown' : w2.ownsRow W.heap.size 3 1 v' (st.length + 1) (st.map (Value.int .i64) ++ [.int .i64 x])) (hg : (w1.alloc o1).grownBy w2 v.ownBlock) :
    w2.heap[bf]? = some (.cells #[v] 27 (0, 0)) ∧ PathI W a S bf (i + 1) (st ++ [x]) (w2.setCell ⟨bf, 0, none⟩ v') ∧ Off (fun k => W.heap.size ≤ k) w1 (w2.setCell ⟨bf, 0, none⟩ v') ∧
      (∀ k : Nat, ∀ x t, w1.heap[k]? = some (.cells #[x] t (0, 0)) → t ≠ 27 → t ≠ 3 → (w2.setCell ⟨bf, 0, none⟩ v').heap[k]? = w1.heap[k]?) := by
  obtain ⟨hB, hS, hbf, hl, _, _, _⟩ := h
  have hbw := (Array.getElem?_eq_some_iff.1 hc).1
  have hrow : ∀ k, v.ownBlock = some k → W.heap.size ≤ k := fun k hk => (hown.lt k hk).1
  have hrt : ∀ k, v.ownBlock = some k → ∀ x t, w1.heap[k]? = some (.cells #[x] t (0, 0)) → t = 3 := fun k hk x t hx => by
    rcases hown.2 with ⟨hv, _⟩ | ⟨g, cap, cur, hv, _, hcur, _⟩
    · rw [hv] at hk; cases hk
    · rw [hv] at hk
      have : g = k := by simpa [Value.ownBlock] using hk
      rw [← this, hcur] at hx; cases hx; rfl
  have hblk : ∀ k, k < w1.heap.size → v.ownBlock ≠ some k → w2.heap[k]? = w1.heap[k]? := fun k hk hn =>
    (hg.block k (by simp; omega) (fun e => hn e.symm)).trans (Below.heap_alloc _ _ _ (by omega))
  have hbfn : v.ownBlock ≠ some bf := fun e => by have := hrt bf e _ _ hc; revert this; decide
  have hc2 : w2.heap[bf]? = some (.cells #[v] 27 (0, 0)) := (hblk bf hbw hbfn).trans hc
  have hsz := hg.size
  have hBs := hB.size
  simp only [World.size_alloc] at hsz
  refine ⟨hc2, ⟨⟨?_, ?_, ?_, ?_, fun k hk => ?_⟩, hS, hbf, by simp [hl], v', box_set hc2, ?_⟩, ⟨?_, ?_, ?_, ?_, fun k hk hx => ?_⟩, fun k x t hk h1 h2 => ?_⟩
  · exact hg.os.trans hB.os
  · exact hg.tape.trans hB.tape
  · exact hg.output.trans hB.output
  · simp; omega
  · rw [Below.heap_setCell _ _ _ _ (by show k ≠ bf; omega), hblk k (by omega) (fun e => by have := hrow k e; omega)]
    exact hB.block k hk
  · have h3 := hown'.kept (grownBy_setCell w2 ⟨bf, 0, none⟩ v') (by
      cases hb : v'.ownBlock with
      | none => exact Or.inl rfl
      | some k =>
        right
        intro e
        rcases hown'.2 with ⟨hv, h0⟩ | ⟨g, cap, cur, hv, _, hcur, _⟩
        · omega
        · rw [hv] at hb
          have e1 : g = k := by simpa [Value.ownBlock] using hb
          have e2 : k = bf := by simpa using e
          rw [e1, e2, hc2] at hcur
          cases hcur)
    simpa using h3
  · exact hg.os
  · exact hg.tape
  · exact hg.output
  · simp; omega
  · rw [Below.heap_setCell _ _ _ _ (by show k ≠ bf; exact fun e => hx (by show W.heap.size ≤ k; omega)), hblk k hk (fun e => hx (hrow k e))]
  · have hkl := (Array.getElem?_eq_some_iff.1 hk).1
    rw [Below.heap_setCell _ _ _ _ (by show k ≠ bf; exact fun e => by rw [e, hc] at hk; cases hk; exact h1 rfl), hblk k hkl (fun e => h2 (hrt k e _ _ hk))]

set_option maxRecDepth 100000 in
set_option maxHeartbeats 1000000 in
theorem pathVisit_any (W : World) (a : Option Addr) (S : List Nd) (bf i : Nat) (st : List Int) (x : Int) (w1 : World) (hi : i ≤ 1000) (h : PathI W a S bf i st w1) :
    Calls Try.prog 83 #[.int .i64 x, .pointer (some ⟨bf, 0, none⟩)] w1 fun e w2 => e = .returned (.bool true) ∧ PathI W a S bf (i + 1) (st ++ [x]) w2 ∧ Off (fun k => W.heap.size ≤ k) w1 w2 ∧ ∀ (k : Nat) x t, w1.heap[k]? = some (.cells #[x] t (0, 0)) → t ≠ 27 → t ≠ 3 → w2.heap[k]? = w1.heap[k]? := by
  obtain ⟨i0, hi0, hz0, hz1, hz2⟩ := info_parts info3
  obtain ⟨_, _, _, hl, v, hc, hown⟩ := id h
  have ST : Hid (∀ v' w2 o1, w2.ownsRow W.heap.size 3 1 v' (st.length + 1) (st.map (Value.int .i64) ++ [.int .i64 x]) → (w1.alloc o1).grownBy w2 v.ownBlock → _) := fun v' w2 o1 h1 h2 => PathI.step x h hc o1 hown h1 h2
  have OWN : Hid (w1.ownsRow W.heap.size 3 1 v st.length (st.map (Value.int .i64))) := hown
  have cb := box_cell hc
  have hbl := World.block_lt_of_cell? _ _ cb
  have hsm : st.length ≤ 2000 := by omega
  clear hown hc h hl
  go_enter Try.func83, Try.ntmps83
  go_wp2_with (at_builtin; refine wpList_append_own _ rfl _ _ 27 rfl W.heap.size 3 i0 (.int .i64 0) 1 8 Try.underlying27 hi0 hz0 hz1 hz2 rfl (by decide) _ _ _ rfl (OWN.out.alloc _) ⟨w1.heap.size, 0, none⟩ 1 1 [.int .i64 x] rfl rfl ?c1 ?c2 ?c3 ?c4 ?c5 ?_)
  case c2 => rfl
  case c3 => unfold maxLen; omega
  case c4 => omega
  case c5 => omega
  intro v' w2 hown' hgrow _
  obtain ⟨g', cap', rfl⟩ : ∃ g' cap', v' = .slice (some ⟨g', 0, none⟩) (st.length + 1) cap' := by
    rcases hown'.2 with ⟨_, h⟩ | ⟨g', cap', cur, h, _⟩
    · omega
    · exact ⟨g', cap', h⟩
  obtain ⟨hc2, hI2, hO2, hT2⟩ := ST.out _ _ _ hown' hgrow
  have HI2 : Hid _ := hI2
  have HO2 : Hid _ := hO2
  have HT2 : Hid _ := hT2
  have cb2 := box_cell hc2
  have fb2 := fun o => box_frozen (o := o) hc2
  clear hown' hgrow hI2 hO2 hT2 hc2
  go_wp2
  go_ret
  exact ⟨rfl, HI2.out, HO2.out, HT2.out⟩
end Go.Proofs.Ytjlapfgghljidab

namespace Go.Proofs.Ytjlapfgghljidab
open Go.RowKit

set_option maxRecDepth 100000 in
set_option maxHeartbeats 2000000 in
theorem pathFrom_any (a : Option Addr) (c : Nat) (S : List Nd) (k : Nat) (w : World) (hN : S.length ≤ 24) (hk : k < S.length) (hS : NdsAt w a S) :
    Calls Try.prog 57 #[.agg #[.slice a S.length c], .int .i64 (k : Int)] w fun e w' => ∃ v, e = .returned v ∧ Below w.heap.size w w' ∧ w'.ownsRow w.heap.size 3 1 v (pathF S k).length ((pathF S k).map (Value.int .i64)) := by
  have hp := fun W => isPlace_any a c S.length (k : Int) W (by omega)
  rw [isPl_nat.2 hk] at hp
  have CL : Hid (∀ (W W1 : World) (bf : Nat), PathI W a S bf 0 [(k : Int)] W1 → Calls Try.prog 81 #[.agg #[.slice a S.length c], .int .i64 (k : Int), .func (.func 82) #[] #[], .func (.func 83) #[] #[.pointer (some ⟨bf, 0, none⟩)]] W1 fun e w' => e = .returned (.tuple #[]) ∧ ∃ i, PathI W a S bf i (pathF S k) w') := fun W W1 bf h => by
    refine (climb_cnt a c S W1 (k : Int) 82 83 #[.pointer (some ⟨bf, 0, none⟩)] rightUnder pathStep (PathI W a S bf) (fun j => W.heap.size ≤ j) [(k : Int)] (by omega)
      (fun i st w1 h => h.2.1.below h.1) (fun i st w1 w2 h hb => h.below hb)
      (enters_of Try.func82 (by kernel_rfl) rfl) (enters_of Try.func83 (by kernel_rfl) rfl)
      (fun x v w1 => rightUnder_any x v w1)
      (fun i st x w1 hi h _ _ => ?_) h).mono ?_
    · refine (pathVisit_any W a S bf i st x w1 (by omega) h).mono ?_
      rintro e w2 ⟨rfl, g1, g2, g3⟩
      exact ⟨rfl, g1, g2, fun j hj => g3 j _ _ hj (by decide) (by decide)⟩
    · rintro e w' ⟨rfl, ⟨i, _, hI⟩, _⟩
      refine ⟨rfl, i, ?_⟩
      rw [if_pos (isPl_nat.2 hk), climb_line, Int.toNat_natCast] at hI
      exact hI
  have HS : Hid (NdsAt w a S) := hS
  obtain ⟨R, hR⟩ : ∃ R, pathF S k = R := ⟨_, rfl⟩
  rw [hR] at CL ⊢
  have PI : Hid (∀ (W W1 : World) (bf : Nat) st, PathI W a S bf 0 st W1 ↔ (Below W.heap.size W W1 ∧ NdsAt W a S ∧ W.heap.size ≤ bf ∧ st.length = 0 + 1 ∧ ∃ v, W1.heap[bf]? = some (.cells #[v] 27 (0, 0)) ∧ W1.ownsRow W.heap.size 3 1 v st.length (st.map (Value.int .i64)))) := fun W W1 bf st => Iff.rfl
  clear hS hR
  generalize hn : S.length = n at *
  clear hn
  go_enter Try.func57, Try.ntmps57
  go_wp2_with (go_at_call 80; refine (hp _).mono ?_; rintro e w1 ⟨rfl, hb1⟩; simp only [World.size_alloc] at hb1; have l0 : w1.cell? ⟨w.heap.size, 0, none⟩ = some (.slice a n c) := (hb1.cell (by simp)).trans (by go_simp); have hB1 : Below w.heap.size w w1 := ((Below.refl _ _).alloc (Nat.le_refl _) _).trans (hb1.mono (by simp)); have hl0 := World.block_lt_of_cell? _ _ l0; have HB1 : Hid _ := hB1; clear hb1 hB1)
  refine Calls.mono (CL.out w1 _ (w1.heap.size + 1) ((PI.out _ _ _ _).2 ⟨((Below.refl _ _).alloc (Nat.le_refl _) _).alloc (by simp) _, HS.out.below HB1.out, by omega, rfl, .slice (some ⟨w1.heap.size, 0, none⟩) 1 1, ?_, ?_⟩)) ?_
  · have := heap_alloc_new (w1.alloc (.cells #[.int .i64 (k : Int)] 3)) (.cells #[.slice (some ⟨w1.heap.size, 0, none⟩) 1 1] 27)
    simpa using this
  · refine ⟨by simp, Or.inr ⟨w1.heap.size, 1, #[.int .i64 (k : Int)], rfl, Nat.le_refl _, ?_, by simp, by unfold maxLen; omega, by simp, by simp⟩⟩
    have h1 := ((Below.refl (w1.heap.size + 1) (w1.alloc (.cells #[.int .i64 (k : Int)] 3))).alloc (by simp) (.cells #[.slice (some ⟨w1.heap.size, 0, none⟩) 1 1] 27)).block w1.heap.size (by omega)
    have h2 := heap_alloc_new w1 (.cells #[.int .i64 (k : Int)] 3)
    rw [h1]
    simpa using h2
  · rintro e w2 ⟨rfl, i, hI⟩
    obtain ⟨hB2, _, _, _, v, hc, hown⟩ := hI
    have cb := box_cell hc
    have HB2 : Hid (Below w.heap.size w w2) := HB1.out.trans (hB2.mono HB1.out.size)
    have HO : Hid (w2.ownsRow w.heap.size 3 1 v R.length (R.map (Value.int .i64))) := ownsRow_base hown HB1.out.size
    clear hB2 hc hown
    go_wp2
    go_ret
    exact ⟨v, rfl, HB2.out, HO.out⟩
end Go.Proofs.Ytjlapfgghljidab
