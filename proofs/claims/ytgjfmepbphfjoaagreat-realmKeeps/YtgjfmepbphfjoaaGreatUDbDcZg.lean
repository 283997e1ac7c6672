/-
  Marks, without the program: what was set last is what is found, as long as the hand holds.
-/
import Derived.Test.YtgjfmepbphfjoaaGreatUDa
import Derived.Test.YtgjfmepbphfjoaaGreatUZf
namespace Go.Proofs.YtgjfmepbphfjoaaGreat
open Go.RowKit
set_option linter.unusedVariables false

/-- The hand holds no more, and never will. -/
def Dead (S : List Nd) (h : Int × Int) : Prop := ∃ k : Nat, h.1 = k ∧ k < S.length ∧ (h.2 < (nd S k).n ∨ ((nd S k).n = h.2 ∧ (nd S k).u = false))
def MarkI (S : List Nd) (h : Int × Int) (m : Int) : Prop := (∃ k : Nat, h.1 = k ∧ k < S.length ∧ (nd S k).u = true ∧ (nd S k).n = h.2 ∧ (nd S k).m = m) ∨ Dead S h

theorem MarkI.find {S : List Nd} {h : Int × Int} {m : Int} (I : MarkI S h m) (hf : findE S h.1 h.2 = 0) : (nd S h.1.toNat).m = m := by
  obtain ⟨_, k, e, hk, hu, hn⟩ := held_at hf
  rcases I with ⟨k', e', _, _, _, hm⟩ | ⟨k', e', _, hd⟩
  · have : k' = k := by omega
    subst this
    rw [e, Int.toNat_natCast]
    exact hm
  · have : k' = k := by omega
    subst this
    rcases hd with hd | ⟨_, hd⟩
    · omega
    · rw [hu] at hd; cases hd
theorem Dead.step {R Q : Rl} {x : Ac} {o : Int} (K : Kept R x Q o) {h : Int × Int} (I : Dead R.s h) : Dead Q.s h := by
  obtain ⟨k, e, hk, hd⟩ := I
  refine ⟨k, e, by rw [K.len]; exact hk, ?_⟩
  obtain ⟨q, hq⟩ := K.node
  rcases hq k hk with ⟨s1, s2, _, _⟩ | ⟨_, ⟨b1, b2, b3, _⟩ | ⟨d1, d2, d3⟩ | ⟨m1, m2, _⟩⟩
  · rw [s1, s2]; exact hd
  · left
    rw [b3]
    rcases hd with hd | ⟨hd, _⟩ <;> omega
  · rcases hd with hd | ⟨hd, hu⟩
    · left; rw [d3]; exact hd
    · rw [d1] at hu; cases hu
  · rw [m1, m2]; exact hd
theorem MarkI.step {R Q : Rl} {x : Ac} {o : Int} (K : Kept R x Q o) {h : Int × Int} {m : Int} (I : MarkI R.s h m) (hno : ¬ (hd R x.a = h ∧ (x.k = 5 ∨ x.k = 11))) : MarkI Q.s h m := by
  rcases I with ⟨k, e, hk, hu, hn, hm⟩ | I
  · by_cases hkk : x.k = 5 ∨ x.k = 11
    · obtain ⟨k', e', hk', hu', hn', _, hs, _⟩ := K.mark hkk
      have hne : k ≠ k' := fun e2 => hno ⟨by
        subst e2
        refine Prod.ext ?_ ?_
        · rw [e', e]
        · rw [← hn', ← hn], hkk⟩
      left
      refine ⟨k, e, by rw [K.len]; exact hk, ?_⟩
      rw [hs, nd_set _ _ _ _ hk', if_neg hne]
      exact ⟨hu, hn, hm⟩
    · obtain ⟨hl, q, hq⟩ := K.mild (fun h => hkk (Or.inl h)) (fun h => hkk (Or.inr h))
      rcases hq k hk with ⟨s1, s2, _, s4⟩ | ⟨_, ⟨b1, b2, b3, _⟩ | ⟨d1, d2, d3⟩⟩
      · left
        exact ⟨k, e, by rw [K.len]; exact hk, by rw [s1]; exact hu, by rw [s2]; exact hn, by rw [s4]; exact hm⟩
      · rw [hu] at b1; cases b1
      · right
        exact ⟨k, e, by rw [K.len]; exact hk, Or.inr ⟨by rw [d3]; exact hn, d2⟩⟩
  · exact Or.inr (I.step K)
theorem MarkI.new {R Q : Rl} {x : Ac} {o : Int} (K : Kept R x Q o) {h : Int × Int} (hh : hd R x.a = h) (hk : x.k = 5 ∨ x.k = 11) : MarkI Q.s h (if x.k = 11 then (cl R.i x.n.toNat).n else x.n) := by
  obtain ⟨k', e', hk', hu', hn', _, hs, _⟩ := K.mark hk
  left
  refine ⟨k', by rw [← hh]; exact e', by rw [K.len]; exact hk', ?_⟩
  rw [hs, nd_set _ _ _ _ hk', if_pos rfl]
  exact ⟨hu', by rw [← hh]; exact hn', rfl⟩

/-- How many of the first j differ in their marks, in their hands. -/
def markN (S T : List Nd) : Nat → Nat
  | 0 => 0
  | j + 1 => markN S T j + if (nd T j).m = (nd S j).m then 0 else 1
def handN (A B : List (Int × Int)) : Nat → Nat
  | 0 => 0
  | j + 1 => handN A B j + if B.getD j (0, 0) = A.getD j (0, 0) then 0 else 1
theorem Kept.marks {R Q : Rl} {x : Ac} {o : Int} (K : Kept R x Q o) : ∀ j, j ≤ R.s.length → markN R.s Q.s j ≤ 1 := by
  obtain ⟨q, hq⟩ := K.node
  have key : ∀ j, j ≤ R.s.length → markN R.s Q.s j ≤ if q < j then 1 else 0 := by
    intro j
    induction j with
    | zero => intro _; simp [markN]
    | succ j ih =>
      intro hj
      have h1 := ih (by omega)
      unfold markN
      by_cases e : j = q
      · subst e
        rw [if_neg (by omega)] at h1
        rw [show (if j < j + 1 then (1 : Nat) else 0) = 1 from if_pos (by omega)]
        split <;> omega
      · rcases hq j (by omega) with ⟨_, _, _, s4⟩ | ⟨h, _⟩
        · rw [if_pos s4]
          split at h1
          · rw [if_pos (by omega)]; omega
          · rw [if_neg (by omega)]; omega
        · exact absurd h e
  intro j hj
  have := key j hj
  split at this <;> omega
theorem Kept.hands {R Q : Rl} {x : Ac} {o : Int} (K : Kept R x Q o) : ∀ j, handN R.hs Q.hs j ≤ 1 := by
  obtain ⟨q, hq⟩ := K.hand
  have key : ∀ j, handN R.hs Q.hs j ≤ if q < j then 1 else 0 := by
    intro j
    induction j with
    | zero => simp [handN]
    | succ j ih =>
      unfold handN
      by_cases e : j = q
      · subst e
        rw [if_neg (by omega)] at ih
        rw [show (if j < j + 1 then (1 : Nat) else 0) = 1 from if_pos (by omega)]
        split <;> omega
      · rw [if_pos (hq j e)]
        split at ih
        · rw [if_pos (by omega)]; omega
        · rw [if_neg (by omega)]; omega
  intro j
  have := key j
  split at this <;> omega
/-- What the law asks of each node. -/
theorem Kept.uses {R Q : Rl} {x : Ac} {o : Int} (K : Kept R x Q o) {i : Nat} (hi : i < R.s.length) : (nd R.s i).n ≤ (nd Q.s i).n ∧ (nd Q.s i).n ≤ (nd R.s i).n + 1 ∧ ((nd Q.s i).u = true → (nd R.s i).u = true → (nd Q.s i).t = (nd R.s i).t ∧ (nd Q.s i).n = (nd R.s i).n) := by
  obtain ⟨q, hq⟩ := K.node
  rcases hq i hi with ⟨s1, s2, s3, _⟩ | ⟨_, ⟨b1, b2, b3, _⟩ | ⟨d1, d2, d3⟩ | ⟨m1, m2, m3⟩⟩
  · exact ⟨by omega, by omega, fun _ _ => ⟨s3, s2⟩⟩
  · exact ⟨by omega, by omega, fun _ h => by rw [b1] at h; cases h⟩
  · exact ⟨by omega, by omega, fun h _ => by rw [d2] at h; cases h⟩
  · exact ⟨by omega, by omega, fun _ _ => ⟨m3, m2⟩⟩
end Go.Proofs.YtgjfmepbphfjoaaGreat

namespace Go.Proofs.YtgjfmepbphfjoaaGreat
open Go.RowKit
set_option linter.unusedVariables false

theorem belowN' {B : Nat} {w w' : World} (h : Below B w w') (n : Nat) : Below B w (w'.drewN n) := ⟨h.os, h.tape, h.output, h.size, h.block⟩
/-- Where a realm's four slices lead to, and their capacities. -/
structure RA where
  a0 : Option Addr
  a1 : Option Addr
  a2 : Option Addr
  a3 : Option Addr
  c0 : Nat
  c1 : Nat
  c2 : Nat
  c3 : Nat
def RlAt (w : World) (A : RA) (R : Rl) : Prop := NdsAt w A.a0 R.s ∧ HandsAt w A.a1 R.hs ∧ ClsAt w A.a2 R.i ∧ IntsAt w A.a3 R.t
abbrev rlV (A : RA) (R : Rl) : Value := .agg #[.slice A.a0 R.s.length A.c0, .slice A.a1 R.hs.length A.c1, .slice A.a2 R.i.length A.c2, .slice A.a3 R.t.length A.c3]
abbrev acV (x : Ac) : Value := .agg #[.int .i64 x.k, .int .i64 x.a, .int .i64 x.b, .int .i64 x.c, .int .i64 x.n]
abbrev bxR (A : RA) (R : Rl) : Obj := .cells #[.slice A.a0 R.s.length A.c0, .slice A.a1 R.hs.length A.c1, .slice A.a2 R.i.length A.c2, .slice A.a3 R.t.length A.c3] 31 (0, 0)
def BigR (R : Rl) : Prop := R.s.length ≤ 9223372036854775807 ∧ Big R.s ∧ R.hs.length ≤ 9223372036854775807 ∧ R.i.length ≤ 9223372036854775807 ∧ BigC R.i ∧ R.t.length ≤ 9223372036854775807
theorem RlAt.below {w w' : World} {A : RA} {R : Rl} (h : RlAt w A R) (hb : Below w.heap.size w w') : RlAt w' A R := ⟨h.1.below hb, h.2.1.below hb, h.2.2.1.below hb, h.2.2.2.below hb⟩
theorem rl_zero (w : World) (A : RA) : RlAt w A zeroRl := ⟨fun _ h => absurd h (Nat.not_lt_zero _), fun _ h => absurd h (Nat.not_lt_zero _), fun _ h => absurd h (Nat.not_lt_zero _), fun _ h => absurd h (Nat.not_lt_zero _)⟩
theorem big_zero : BigR zeroRl := ⟨by decide, fun _ h => absurd h (Nat.not_lt_zero _), by decide, by decide, fun _ h => absurd h (Nat.not_lt_zero _), by decide⟩
theorem cells_zero_at {m : Nat} : ∀ {G : List Cl}, cellsE m G = 0 → ∀ i, i < G.length → cellE m (cl G i) = 0
  | [], _, i, hi => absurd hi (Nat.not_lt_zero _)
  | x :: r, h, i, hi => by
    unfold cellsE at h
    by_cases h1 : cellE m x = 0
    · rw [if_pos h1] at h
      match i, hi with
      | 0, _ => exact h1
      | i + 1, hi => exact cells_zero_at (G := r) h i (by simpa using hi)
    · rw [if_neg h1] at h
      exact absurd h h1
theorem gright_big {G : List Cl} (h : gcheckE G = 0) : G.length ≤ 24 ∧ BigC G := by
  unfold gcheckE at h
  by_cases h1 : 24 < G.length
  · rw [if_pos h1] at h; omega
  · rw [if_neg h1] at h
    refine ⟨by omega, fun i hi => ?_⟩
    have := cells_zero_at h i hi
    unfold cellE at this
    split at this
    · omega
    · split at this
      · omega
      · omega
theorem big_right {R : Rl} (h : rcheckE R = 0) : BigR R := by
  obtain ⟨h1, h2, h3, h4⟩ := rcheck_parts h
  have := gright_big h3
  exact ⟨by have := h1.small; omega, h1.big, by omega, by omega, this.2, by omega⟩
theorem big_do (R : Rl) (x : Ac) : BigR (doF R x).r := by
  by_cases h : (doF R x).e = 0
  · exact big_right (do_kept h).2.2
  · rw [(do_no R x h).1]
    exact big_zero
def newE (p : Int) : Int := if 0 ≤ p ∧ p ≤ 24 then 0 else 2
def newR (p : Int) : Rl := if 0 ≤ p ∧ p ≤ 24 then ⟨List.replicate p.toNat unusedNd, List.replicate 16 (0, 0), [], []⟩ else zeroRl

def DoAns : Prop := ∀ (A : RA) (R : Rl) (x : Ac) (w : World), BigR R → RlAt w A R →
  Calls Tryz.prog 9 #[rlV A R, acV x] w fun e w' => ∃ B : RA, e = .returned (.tuple #[rlV B (doF R x).r, .int .i64 (doF R x).o, .int .i64 (doF R x).e]) ∧ Below w.heap.size w w' ∧ RlAt w' B (doF R x).r
def NewAns : Prop := ∀ (p : Int) (w : World),
  Calls Tryz.prog 11 #[.int .i64 p] w fun e w' => ∃ B : RA, e = .returned (.tuple #[rlV B (newR p), .int .i64 (newE p)]) ∧ Below w.heap.size w w' ∧ RlAt w' B (newR p)
def RCheckAns : Prop := ∀ (A : RA) (R : Rl) (w : World), BigR R → RlAt w A R →
  Calls Tryz.prog 7 #[rlV A R] w fun e w' => e = .returned (.int .i64 (rcheckE R)) ∧ Below w.heap.size w w'

def X1 : Ac := ⟨1, 2, 0, 0, 4⟩
def X2 : Ac := ⟨5, 2, 0, 0, 7⟩
def X3 : Ac := ⟨6, 2, 0, 0, 0⟩
def X4 : Ac := ⟨6, 1, 0, 0, 0⟩
def H0 : Rl := newR 3
def H1 : Rl := (doF H0 X1).r
def H2 : Rl := (doF H1 X2).r
theorem h_0 : rcheckE H0 = 0 := by decide +kernel
theorem h_1 : (doF H0 X1).e = 0 := by decide +kernel
theorem h_2 : (doF H1 X2).e = 0 := by decide +kernel
theorem h_3 : (doF H2 X3).e = 0 := by decide +kernel
theorem h_4 : (doF H2 X4).e = 4 := by decide +kernel
theorem h_5 : (doF H2 X3).o = 7 := by decide +kernel
theorem h_6 : H2.hs.length = 16 := by decide +kernel
theorem h_7 : newE 3 = 0 := by decide +kernel

def HousedOk : Prop := ∀ w : World, Calls Tryz.prog 6 #[] w fun e w' => e = .returned (.bool true) ∧ Below w.heap.size w w'
end Go.Proofs.YtgjfmepbphfjoaaGreat

namespace Go.Proofs.YtgjfmepbphfjoaaGreat
open Go.RowKit

theorem att_low {w w1 : World} {a : Option Addr} {n c : Nat} {p u : Int} (hb : Below (w.heap.size + 1 + 1 + 1 + 1) ((((w.alloc (.cells #[.slice a n c] 24)).alloc (.cells #[.int .i64 p, .int .i64 u] 39)).alloc (.cells #[.slice none 0 0] 24)).alloc (.cells #[.int .i64 0, .int .i64 0] 39)) w1) :
    w1.cell? ⟨w.heap.size, 0, none⟩ = some (.slice a n c) ∧ w1.cell? ⟨w.heap.size + 1, 0, none⟩ = some (.int .i64 p) ∧ w1.cell? ⟨w.heap.size + 1, 1, none⟩ = some (.int .i64 u) ∧ w1.cell? ⟨w.heap.size + 1 + 1, 0, none⟩ = some (.slice none 0 0) ∧ w1.cell? ⟨w.heap.size + 1 + 1 + 1, 0, none⟩ = some (.int .i64 0) ∧ w1.cell? ⟨w.heap.size + 1 + 1 + 1, 1, none⟩ = some (.int .i64 0) ∧ (∀ o, w1.frozen? ⟨w.heap.size + 1 + 1, o, none⟩ = false) ∧ (∀ o, w1.frozen? ⟨w.heap.size + 1 + 1 + 1, o, none⟩ = false) := by
  refine ⟨?_, ?_, ?_, ?_, ?_, ?_, fun o => ?_, fun o => ?_⟩
  all_goals first | exact (hb.cell (by first | (simp; done) | (simp; omega))).trans (by go_simp) | exact (hb.frozen (by first | (simp; done) | (simp; omega))).trans (by go_simp)

set_option maxRecDepth 100000 in
set_option maxHeartbeats 2000000 in
theorem attach_ok (a : Option Addr) (c : Nat) (S : List Nd) (k f : Nat) (u : Int) (cl : Bool) (w : World) (wf : WF S) (hS : NdsAt w a S) (hk : k < S.length) (hE : findE S k u = 0) (hH : hostB S k = false) (hf : f < S.length) (hfr : freeB (nd S f) = true) (hall : ∀ i, i < f → freeB (nd S i) = false) :
    Calls Tryz.prog 113 #[.agg #[.slice a S.length c], .agg #[.int .i64 (k : Int), .int .i64 u], .bool cl] w fun e w' => ∃ g, e = .returned (.tuple #[.agg #[.slice (some ⟨g, 0, none⟩) S.length S.length], .agg #[.int .i64 (f : Int), .int .i64 ((nd S f).n + 1)], .int .i64 0]) ∧ Below w.heap.size w w' ∧ w.heap.size ≤ g ∧ OwnR w' g (S.set f (rootNd (nd S f) k cl)) := by
  have hN := wf.small
  have D0 : Hid (∀ W, NdsAt W a S → Calls _ _ _ _ _) := fun W hW => find_ok a c S k u W (by omega) wf.big hW hk hE (by have := wf.kids_small hk; omega)
  have d1 := fun W hW => isHost_any a c S (k : Int) W (by omega) hW (by omega)
  rw [hH] at d1
  have D1 : Hid _ := d1
  have D2 : Hid (∀ W, NdsAt W a S → Calls _ _ _ _ _) := fun W hW => make_own a c S 0 W hN (fun i hi => by have := wf.kids_small hi; omega) hW ((wf_iff _).2 wf) (by omega) (by omega) f hf hfr (wf.uses hf).1 hall
  have HS : Hid (NdsAt w a S) := hS
  have RT : Hid (∀ W g, OwnR W g (S.set f (madeNd (nd S f) 0)) → OwnR ((W.setCell ⟨g, f * 8 + 6, none⟩ (.int .i64 (k : Int))).setCell ⟨g, f * 8 + 7, none⟩ (.bool cl)) g (S.set f (rootNd (nd S f) k cl))) := fun W g h => by
    have h2 := h.root (k := f) (by simpa using hf) (k : Int) cl
    rw [nd_set S f f _ hf, if_pos rfl, List.set_set] at h2
    exact h2
  have RC : Hid (∀ W g, OwnR W g (S.set f (madeNd (nd S f) 0)) → g < W.heap.size ∧ (∀ o, W.frozen? ⟨g, o, none⟩ = false) ∧ (∃ v6 v7, W.cell? ⟨g, f * 8 + 6, none⟩ = some v6 ∧ W.cell? ⟨g, f * 8 + 7, none⟩ = some v7)) := fun W g ⟨F, hF, _⟩ => by
    rw [List.length_set] at hF
    exact ⟨hF.lt, hF.frozen, _, _, hF.cell (by omega), hF.cell (by omega)⟩
  have hf2 : (f : Int) < (S.length : Int) := by omega
  have hf3 : decide ((f : Int) < 0) = false := decide_eq_false (by omega)
  clear hS wf hE hH hfr hall d1
  obtain ⟨x0, hx0⟩ : ∃ x, nd S k = x := ⟨_, rfl⟩
  rw [hx0] at D0
  clear hx0
  obtain ⟨S1, hS1⟩ : ∃ S1, S.set f (madeNd (nd S f) 0) = S1 := ⟨_, rfl⟩
  obtain ⟨S2, hS2⟩ : ∃ S2, S.set f (rootNd (nd S f) k cl) = S2 := ⟨_, rfl⟩
  rw [hS1] at D2 RT RC
  rw [hS2] at RT ⊢
  clear hS1 hS2
  generalize (nd S f).n = nf at *
  generalize S.length = n at *
  go_enter Tryz.func113, Tryz.ntmps113
  go_wp2_with fail
  refine Calls.mono (D0.out _ (HS.out.below (four_below _ _ _ _ _))) ?_
  rintro e w2 ⟨fg, rfl, hb2, _⟩
  simp only [World.size_alloc] at hb2
  have HB2 : Hid (Below (w.heap.size + 1 + 1 + 1 + 1) ((((w.alloc (.cells #[.slice a n c] 24)).alloc (.cells #[.int .i64 (k : Int), .int .i64 u] 39)).alloc (.cells #[.slice none 0 0] 24)).alloc (.cells #[.int .i64 0, .int .i64 0] 39)) w2) := hb2
  have hs2 := hb2.size
  simp only [World.size_alloc] at hs2
  obtain ⟨l0, l1, l2, l3, l4, l5, l6, l7⟩ := att_low hb2
  have BW : Hid (∀ W, Below (w.heap.size + 1 + 1 + 1 + 1) ((((w.alloc (.cells #[.slice a n c] 24)).alloc (.cells #[.int .i64 (k : Int), .int .i64 u] 39)).alloc (.cells #[.slice none 0 0] 24)).alloc (.cells #[.int .i64 0, .int .i64 0] 39)) W → Below w.heap.size w W) := fun W h => (four_below _ _ _ _ _).trans (h.mono (by omega))
  clear hb2
  have q0 : w.heap.size < w2.heap.size := by omega
  have q1 : w.heap.size + 1 < w2.heap.size := by omega
  go_wp2_with fail
  refine Calls.mono (D1.out _ (HS.out.below (BW.out _ (HB2.out.alloc (by omega) _)))) ?_
  rintro e w3 ⟨rfl, hb3⟩
  simp only [World.size_alloc] at hb3
  have HB3 : Hid (Below (w.heap.size + 1 + 1 + 1 + 1) ((((w.alloc (.cells #[.slice a n c] 24)).alloc (.cells #[.int .i64 (k : Int), .int .i64 u] 39)).alloc (.cells #[.slice none 0 0] 24)).alloc (.cells #[.int .i64 0, .int .i64 0] 39)) w3) := (HB2.out.alloc (by omega) _).trans (hb3.mono (by omega))
  have hs3 := hb3.size
  simp only [World.size_alloc] at hs3
  clear hb3 l0 l1 l2 l3 l4 l5 l6 l7
  obtain ⟨l0, l1, l2, l3, l4, l5, l6, l7⟩ := att_low HB3.out
  go_wp2_with fail
  refine Calls.mono (D2.out _ (HS.out.below (BW.out _ HB3.out))) ?_
  rintro e w4 ⟨g, rfl, hb4, hg4, hO4⟩
  have HB4 : Hid (Below (w.heap.size + 1 + 1 + 1 + 1) ((((w.alloc (.cells #[.slice a n c] 24)).alloc (.cells #[.int .i64 (k : Int), .int .i64 u] 39)).alloc (.cells #[.slice none 0 0] 24)).alloc (.cells #[.int .i64 0, .int .i64 0] 39)) w4) := HB3.out.trans (hb4.mono (by omega))
  have hs4 := hb4.size
  clear hb4 l0 l1 l2 l3 l4 l5 l6 l7
  obtain ⟨l0, l1, l2, l3, l4, l5, l6, l7⟩ := att_low HB4.out
  obtain ⟨hgl, hfz, v6, v7, d6, d7⟩ := RC.out _ _ hO4
  have HO4 : Hid (OwnR w4 g S1) := hO4
  have e1 : ¬ g = w.heap.size + 1 := by omega
  have e2 : ¬ w.heap.size + 1 = g := by omega
  have e3 : ¬ g = w.heap.size + 1 + 1 := by omega
  have e4 : ¬ w.heap.size + 1 + 1 = g := by omega
  have e5 : ¬ g = w.heap.size + 1 + 1 + 1 := by omega
  have e6 : ¬ w.heap.size + 1 + 1 + 1 = g := by omega
  have q2 : w.heap.size + 1 < w4.heap.size := by omega
  have q3 : w.heap.size + 1 + 1 < w4.heap.size := by omega
  have q4 : w.heap.size + 1 + 1 + 1 < w4.heap.size := by omega
  have q5 : w.heap.size < w4.heap.size := by omega
  clear hO4 D0 D1 D2
  go_wp2_with fail
  first
    | (obtain ⟨W6, hW6⟩ : ∃ W6, W6 = ((((w4.setCell ⟨g, f * 8 + 6, none⟩ (.int .i64 (k : Int))).setCell ⟨g, f * 8 + 7, none⟩ (.bool cl)).alloc (.cells #[.slice (some ⟨g, 0, none⟩) n n] 24)).alloc (.cells #[.int .i64 (f : Int), .int .i64 (nf + 1)] 39)) := ⟨_, rfl⟩; rw [← hW6])
    | (obtain ⟨W6, hW6⟩ : ∃ W6, W6 = ((((w4.alloc (.cells #[.slice (some ⟨g, 0, none⟩) n n] 24)).alloc (.cells #[.int .i64 (f : Int), .int .i64 (nf + 1)] 39)).setCell ⟨g, f * 8 + 6, none⟩ (.int .i64 (k : Int))).setCell ⟨g, f * 8 + 7, none⟩ (.bool cl)) := ⟨_, rfl⟩; rw [← hW6])
  have HR6 : Hid (OwnR W6 g S2) := by
    rw [hW6]
    first
      | exact (RT.out w4 g HO4.out).up (fun b _ hlt => (((Below.refl _ _).alloc (Nat.le_refl _) _).alloc (by simp) _).block b hlt)
      | exact RT.out _ g (HO4.out.up (fun b _ hlt => (((Below.refl _ _).alloc (Nat.le_refl _) _).alloc (by simp) _).block b hlt))
  have hs6 : W6.heap.size = w4.heap.size + 1 + 1 := by rw [hW6]; simp
  have HB6 : Hid (Below w.heap.size w W6) := by
    rw [hW6]
    first
      | exact ((((BW.out _ HB4.out).setCell (by simp; omega) _).setCell (by simp; omega) _).alloc (by simp; omega) _).alloc (by simp; omega) _
      | exact ((((BW.out _ HB4.out).alloc (by omega) _).alloc (by simp; omega) _).setCell (by simp; omega) _).setCell (by simp; omega) _
  have y0 : W6.cell? ⟨w4.heap.size, 0, none⟩ = some (.slice (some ⟨g, 0, none⟩) n n) := by rw [hW6]; go_simp
  have y1 : W6.cell? ⟨w4.heap.size + 1, 0, none⟩ = some (.int .i64 (f : Int)) := by rw [hW6]; go_simp
  have y2 : W6.cell? ⟨w4.heap.size + 1, 1, none⟩ = some (.int .i64 (nf + 1)) := by rw [hW6]; go_simp
  have y3 : W6.cell? ⟨w.heap.size + 1 + 1, 0, none⟩ = some (.slice none 0 0) := by rw [hW6]; go_simp
  have y4 : W6.cell? ⟨w.heap.size + 1 + 1 + 1, 0, none⟩ = some (.int .i64 0) := by rw [hW6]; go_simp
  have y5 : W6.cell? ⟨w.heap.size + 1 + 1 + 1, 1, none⟩ = some (.int .i64 0) := by rw [hW6]; go_simp
  have y6 : ∀ o, W6.frozen? ⟨w.heap.size + 1 + 1, o, none⟩ = false := fun o => by rw [hW6]; go_simp
  have y7 : ∀ o, W6.frozen? ⟨w.heap.size + 1 + 1 + 1, o, none⟩ = false := fun o => by rw [hW6]; go_simp
  have z1 : w4.heap.size < W6.heap.size := by omega
  have z2 : w4.heap.size + 1 < W6.heap.size := by omega
  have z3 : w.heap.size + 1 + 1 < W6.heap.size := by omega
  have z4 : w.heap.size + 1 + 1 + 1 < W6.heap.size := by omega
  have z5 : ¬ w4.heap.size = w.heap.size + 1 + 1 := by omega
  have z6 : ¬ w4.heap.size + 1 = w.heap.size + 1 + 1 := by omega
  have z7 : ¬ w4.heap.size = w.heap.size + 1 + 1 + 1 := by omega
  have z8 : ¬ w4.heap.size + 1 = w.heap.size + 1 + 1 + 1 := by omega
  clear hW6 l0 l1 l2 l3 l4 l5 l6 l7 d6 d7 hfz
  go_region
  all_goals (try go_wp2)
  all_goals
    refine bodyPost_ret (v := .tuple #[.agg #[.slice (some ⟨g, 0, none⟩) n n], .agg #[.int .i64 (f : Int), .int .i64 (nf + 1)], .int .i64 0]) (by simp [results, Tryz.results113, go_sem, y3, y4, y5]) rfl ⟨g, rfl, ?_, by omega, ?_⟩
    · first
        | exact (((HB6.out.setCell (by simp; omega) _).setCell (by simp; omega) _).setCell (by simp; omega) _).drew
        | exact ((HB6.out.setCell (by simp; omega) _).setCell (by simp; omega) _).setCell (by simp; omega) _
    · refine HR6.out.up (fun b hb hlt => ?_)
      first
        | rw [heap_drew, Below.heap_setCell _ _ _ _ (by show b ≠ w.heap.size + 1 + 1 + 1; omega), Below.heap_setCell _ _ _ _ (by show b ≠ w.heap.size + 1 + 1 + 1; omega), Below.heap_setCell _ _ _ _ (by show b ≠ w.heap.size + 1 + 1; omega)]
        | rw [Below.heap_setCell _ _ _ _ (by show b ≠ w.heap.size + 1 + 1 + 1; omega), Below.heap_setCell _ _ _ _ (by show b ≠ w.heap.size + 1 + 1 + 1; omega), Below.heap_setCell _ _ _ _ (by show b ≠ w.heap.size + 1 + 1; omega)]
end Go.Proofs.YtgjfmepbphfjoaaGreat
