/-
  A variable's box whose cells are slices alone: what lies elsewhere stays; the closed fact.
-/
import Derived.Test.YtgjfmepbphfjoaaGreatUDbDcZg
namespace Go.Proofs.YtgjfmepbphfjoaaGreat
open Go.RowKit
set_option linter.unusedVariables false

/-- All cells of the block are slices. -/
def SlB (W : World) (b : Nat) : Prop := ∀ j v, W.cell? ⟨b, j, none⟩ = some v → ∃ a n c, v = .slice a n c
/-- All blocks but this one lie as they lay. -/
def OffB (b : Nat) (W W' : World) : Prop := W.heap.size ≤ W'.heap.size ∧ ∀ k, k < W.heap.size → k ≠ b → W'.heap[k]? = W.heap[k]?
theorem OffB.cell {b k o : Nat} {W W' : World} {v : Value} (h : OffB b W W') (hk : k ≠ b) (hc : W.cell? ⟨k, o, none⟩ = some v) : W'.cell? ⟨k, o, none⟩ = some v := by
  have := h.2 k (World.block_lt_of_cell? _ _ hc) hk
  unfold World.cell? at hc ⊢
  dsimp only at hc ⊢
  rw [this]
  exact hc
theorem SlB.ne {W : World} {b k o : Nat} {v : Value} (h : SlB W b) (hc : W.cell? ⟨k, o, none⟩ = some v) (hv : ∀ a n c, v ≠ .slice a n c) : k ≠ b := fun e => by
  subst e
  obtain ⟨a, n, c, e2⟩ := h _ _ hc
  exact hv a n c e2
theorem IntsAt.offB {W W' : World} {b : Nat} {a : Option Addr} {l : List Int} (h : IntsAt W a l) (hs : SlB W b) (ho : OffB b W W') : IntsAt W' a l := fun i hi => by
  obtain ⟨k, o, e, hc⟩ := h i hi
  exact ⟨k, o, e, ho.cell (hs.ne hc (fun _ _ _ h => by cases h)) hc⟩
theorem HandsAt.offB {W W' : World} {b : Nat} {a : Option Addr} {l : List (Int × Int)} (h : HandsAt W a l) (hs : SlB W b) (ho : OffB b W W') : HandsAt W' a l := fun i hi => by
  obtain ⟨k, o, e, h1, h2⟩ := h i hi
  have hk := hs.ne h1 (fun _ _ _ h => by cases h)
  exact ⟨k, o, e, ho.cell hk h1, ho.cell hk h2⟩
theorem NdsAt.offB {W W' : World} {b : Nat} {a : Option Addr} {S : List Nd} (h : NdsAt W a S) (hs : SlB W b) (ho : OffB b W W') : NdsAt W' a S := fun i hi => by
  obtain ⟨k, o, e, c0, c1, c2, c3, c4, ⟨ka, kc, c5, hks⟩, c6, c7⟩ := h i hi
  have hk := hs.ne c0 (fun _ _ _ h => by cases h)
  exact ⟨k, o, e, ho.cell hk c0, ho.cell hk c1, ho.cell hk c2, ho.cell hk c3, ho.cell hk c4, ⟨ka, kc, ho.cell hk c5, hks.offB hs ho⟩, ho.cell hk c6, ho.cell hk c7⟩
theorem ClsAt.offB {W W' : World} {b : Nat} {a : Option Addr} {G : List Cl} (h : ClsAt W a G) (hs : SlB W b) (ho : OffB b W W') : ClsAt W' a G := fun i hi => by
  obtain ⟨k, o, e, c0, ka, kc, c1, hks⟩ := h i hi
  have hk := hs.ne c0 (fun _ _ _ h => by cases h)
  exact ⟨k, o, e, ho.cell hk c0, ka, kc, ho.cell hk c1, hks.offB hs ho⟩
theorem RlAt.offB {W W' : World} {b : Nat} {A : RA} {R : Rl} (h : RlAt W A R) (hs : SlB W b) (ho : OffB b W W') : RlAt W' A R := ⟨h.1.offB hs ho, h.2.1.offB hs ho, h.2.2.1.offB hs ho, h.2.2.2.offB hs ho⟩
theorem OffB.set {W W' : World} {b o : Nat} {v : Value} (h : OffB b W W') : OffB b W (W'.setCell ⟨b, o, none⟩ v) := ⟨by simpa using h.1, fun k hk hn => (Below.heap_setCell _ _ _ _ hn).trans (h.2 k hk hn)⟩
theorem OffB.refl (b : Nat) (W : World) : OffB b W W := ⟨Nat.le_refl _, fun _ _ _ => rfl⟩

theorem keepB {W W' : World} {b : Nat} {o : Obj} (h : W.heap[b]? = some o) (hb : Below W.heap.size W W') : W'.heap[b]? = some o := (hb.block b (box_lt h)).trans h
theorem keepO {W W' : World} {b k : Nat} {o : Obj} (h : W.heap[k]? = some o) (ho : OffB b W W') (hne : k ≠ b) : W'.heap[k]? = some o := (ho.2 k (box_lt h) hne).trans h
theorem box_ne {W : World} {b k : Nat} {X Y : Array Value} {t t' : Nat} {f g : Nat × Nat} (h : W.heap[b]? = some (.cells X t f)) (h' : W.heap[k]? = some (.cells Y t' g)) (hn : X.size ≠ Y.size) : k ≠ b := fun e => by
  subst e
  rw [h] at h'
  cases h'
  exact hn rfl

/-- An act, slice by slice. -/
theorem do_at (hD : DoAns) {R Q : Rl} {x : Ac} {E o : Int} (hB : BigR R) (h : doF R x = ⟨E, Q, o⟩) (a0 a1 a2 a3 : Option Addr) (c0 c1 c2 c3 : Nat) (W : World) (hW : RlAt W ⟨a0, a1, a2, a3, c0, c1, c2, c3⟩ R) :
    Calls Tryz.prog 9 #[.agg #[.slice a0 R.s.length c0, .slice a1 R.hs.length c1, .slice a2 R.i.length c2, .slice a3 R.t.length c3], .agg #[.int .i64 x.k, .int .i64 x.a, .int .i64 x.b, .int .i64 x.c, .int .i64 x.n]] W fun e w' => ∃ (b0 b1 b2 b3 : Option Addr) (d0 d1 d2 d3 : Nat), e = .returned (.tuple #[.agg #[.slice b0 Q.s.length d0, .slice b1 Q.hs.length d1, .slice b2 Q.i.length d2, .slice b3 Q.t.length d3], .int .i64 o, .int .i64 E]) ∧ Below W.heap.size W w' ∧ RlAt w' ⟨b0, b1, b2, b3, d0, d1, d2, d3⟩ Q := by
  refine (hD ⟨a0, a1, a2, a3, c0, c1, c2, c3⟩ R x W hB hW).mono ?_
  rintro e w' ⟨⟨b0, b1, b2, b3, d0, d1, d2, d3⟩, e1, hb, hr⟩
  rw [h] at e1 hr
  exact ⟨b0, b1, b2, b3, d0, d1, d2, d3, e1, hb, hr⟩
theorem do_eq {R : Rl} {x : Ac} {E : Int} (h : (doF R x).e = E) : doF R x = ⟨E, (doF R x).r, (doF R x).o⟩ := by
  rw [← h]
theorem new_at (hN : NewAns) {R : Rl} {p E : Int} (h1 : newR p = R) (h2 : newE p = E) (W : World) :
    Calls Tryz.prog 11 #[.int .i64 p] W fun e w' => ∃ (b0 b1 b2 b3 : Option Addr) (d0 d1 d2 d3 : Nat), e = .returned (.tuple #[.agg #[.slice b0 R.s.length d0, .slice b1 R.hs.length d1, .slice b2 R.i.length d2, .slice b3 R.t.length d3], .int .i64 E]) ∧ Below W.heap.size W w' ∧ RlAt w' ⟨b0, b1, b2, b3, d0, d1, d2, d3⟩ R := by
  refine (hN p W).mono ?_
  rintro e w' ⟨⟨b0, b1, b2, b3, d0, d1, d2, d3⟩, e1, hb, hr⟩
  rw [h1] at e1 hr
  rw [h2] at e1
  exact ⟨b0, b1, b2, b3, d0, d1, d2, d3, e1, hb, hr⟩
/-- The cells of a box of four slices. -/
theorem sl_box {W : World} {b t : Nat} {v0 v1 v2 v3 : Value} {f} (h : W.heap[b]? = some (.cells #[v0, v1, v2, v3] t f)) (h0 : ∃ a n c, v0 = .slice a n c) (h1 : ∃ a n c, v1 = .slice a n c) (h2 : ∃ a n c, v2 = .slice a n c) (h3 : ∃ a n c, v3 = .slice a n c) : SlB W b := fun j v hv => by
  unfold World.cell? at hv
  dsimp only at hv
  rw [h] at hv
  match j with
  | 0 => simp at hv; rw [← hv]; exact h0
  | 1 => simp at hv; rw [← hv]; exact h1
  | 2 => simp at hv; rw [← hv]; exact h2
  | 3 => simp at hv; rw [← hv]; exact h3
  | j + 4 => simp at hv
theorem boxN_set {W : World} {b t i : Nat} {X : Array Value} {v : Value} {f : Nat × Nat} (h : W.heap[b]? = some (.cells X t f)) : (W.setCell ⟨b, i, none⟩ v).heap[b]? = some (.cells (X.setIfInBounds i v) t f) := by
  show (W.heap.modify b _)[b]? = _
  rw [Array.getElem?_modify, if_pos rfl, h]
  rfl
theorem box4_set {W : World} {b t : Nat} {v0 v1 v2 v3 u0 u1 u2 u3 : Value} (h : W.heap[b]? = some (.cells #[v0, v1, v2, v3] t (0, 0))) : ((((W.setCell ⟨b, 0, none⟩ u0).setCell ⟨b, 1, none⟩ u1).setCell ⟨b, 2, none⟩ u2).setCell ⟨b, 3, none⟩ u3).heap[b]? = some (.cells #[u0, u1, u2, u3] t (0, 0)) := by
  have k0 := boxN_set (i := 0) (v := u0) h
  have k1 := boxN_set (i := 1) (v := u1) k0
  have k2 := boxN_set (i := 2) (v := u2) k1
  exact boxN_set (i := 3) (v := u3) k2
theorem box4_new (W : World) (t : Nat) (v0 v1 v2 v3 : Value) : (W.alloc (.cells #[v0, v1, v2, v3] t)).heap[W.heap.size]? = some (.cells #[v0, v1, v2, v3] t (0, 0)) := heap_alloc_new W _

theorem box4_facts {W : World} {b t : Nat} {v0 v1 v2 v3 : Value} (h : W.heap[b]? = some (.cells #[v0, v1, v2, v3] t (0, 0))) : W.cell? ⟨b, 0, none⟩ = some v0 ∧ W.cell? ⟨b, 1, none⟩ = some v1 ∧ W.cell? ⟨b, 2, none⟩ = some v2 ∧ W.cell? ⟨b, 3, none⟩ = some v3 ∧ (∀ o, W.frozen? ⟨b, o, none⟩ = false) ∧ b < W.heap.size :=
  ⟨by simp [World.cell?, h], by simp [World.cell?, h], by simp [World.cell?, h], by simp [World.cell?, h], fun o => by simp [World.frozen?, h], box_lt h⟩

def H0o : Int := (doF H0 X1).o
def H1o : Int := (doF H1 X2).o
set_option maxRecDepth 100000 in
set_option maxHeartbeats 400000 in
theorem housed_ok (hN : NewAns) (hD : DoAns) : HousedOk := by
  intro w
  have D1 : Hid (∀ W, Calls _ _ _ _ _) := fun W => new_at hN (R := H0) rfl h_7 W
  have D2 : Hid _ := do_at hD (big_right h_0) (show doF H0 X1 = ⟨0, H1, H0o⟩ from do_eq h_1)
  have D3 : Hid _ := do_at hD (R := H1) (big_do _ _) (show doF H1 X2 = ⟨0, H2, H1o⟩ from do_eq h_2)
  have D4 : Hid _ := do_at hD (R := H2) (big_do _ _) (show doF H2 X3 = ⟨0, (doF H2 X3).r, 7⟩ from by rw [← h_5]; exact do_eq h_3)
  have D5 : Hid _ := do_at hD (R := H2) (big_do _ _) (show doF H2 X4 = ⟨4, (doF H2 X4).r, (doF H2 X4).o⟩ from do_eq h_4)
  have LEN : Hid (H2.hs.length = 16) := h_6
  clear hN hD
  generalize (doF H2 X3).r = Q3 at *
  generalize (doF H2 X4).r = Q4 at *
  generalize (doF H2 X4).o = o4 at *
  generalize H0 = R0 at *
  generalize H1 = R1 at *
  generalize H2 = R2 at *
  generalize H0o = o1 at *
  generalize H1o = o2 at *
  go_enter Tryz.func6, Tryz.ntmps6
  go_wp2_with fail
  refine Calls.mono (D1.out _) ?_
  rintro e w1 ⟨a0, a1, a2, a3, c0, c1, c2, c3, rfl, hb, hR⟩
  have HB1 : Hid (Below w.heap.size w w1) := hb
  have HR1 : Hid (RlAt w1 ⟨a0, a1, a2, a3, c0, c1, c2, c3⟩ R0) := hR
  clear hb hR D1
  go_wp2_with fail
  refine Calls.mono (D2.out a0 a1 a2 a3 c0 c1 c2 c3 _ (HR1.out.below (one_belowS _ _))) ?_
  rintro e w2 ⟨b0, b1, b2, b3, d0, d1, d2, d3, rfl, hb, hR⟩
  have HB2 : Hid (Below w.heap.size w w2) := HB1.out.trans (((one_belowS w1 _).trans (hb.mono (by simp))).mono HB1.out.size)
  have hX : w2.heap[w1.heap.size]? = some (.cells #[.slice a0 R0.s.length c0, .slice a1 R0.hs.length c1, .slice a2 R0.i.length c2, .slice a3 R0.t.length c3] 31 (0, 0)) := (hb.block _ (by simp)).trans (box4_new _ _ _ _ _ _)
  have HX2 : Hid (w2.heap[w1.heap.size]? = some (.cells #[.slice a0 R0.s.length c0, .slice a1 R0.hs.length c1, .slice a2 R0.i.length c2, .slice a3 R0.t.length c3] 31 (0, 0))) := hX
  have HR2 : Hid (RlAt w2 ⟨b0, b1, b2, b3, d0, d1, d2, d3⟩ R1) := hR
  obtain ⟨l0, l1, l2, l3, fz, lt⟩ := box4_facts hX
  clear hb hR D2 hX HR1
  go_wp2_with fail
  have SL2 : Hid (SlB w2 w1.heap.size) := sl_box HX2.out ⟨_, _, _, rfl⟩ ⟨_, _, _, rfl⟩ ⟨_, _, _, rfl⟩ ⟨_, _, _, rfl⟩
  refine Calls.mono (D3.out b0 b1 b2 b3 d0 d1 d2 d3 _ (HR2.out.offB SL2.out (OffB.refl _ _).set.set.set.set)) ?_
  rintro e w3 ⟨e0, e1, e2, e3, f0, f1, f2, f3, rfl, hb, hR⟩
  have HB3 : Hid (Below w.heap.size w w3) := ((((HB2.out.setCell HB1.out.size _).setCell HB1.out.size _).setCell HB1.out.size _).setCell HB1.out.size _).trans (hb.mono (by simpa using HB2.out.size))
  have hX : w3.heap[w1.heap.size]? = some (.cells #[.slice b0 R1.s.length d0, .slice b1 R1.hs.length d1, .slice b2 R1.i.length d2, .slice b3 R1.t.length d3] 31 (0, 0)) := (hb.block _ (by simpa using lt)).trans (box4_set HX2.out)
  have HX3 : Hid (w3.heap[w1.heap.size]? = some (.cells #[.slice b0 R1.s.length d0, .slice b1 R1.hs.length d1, .slice b2 R1.i.length d2, .slice b3 R1.t.length d3] 31 (0, 0))) := hX
  have HR3 : Hid (RlAt w3 ⟨e0, e1, e2, e3, f0, f1, f2, f3⟩ R2) := hR
  clear l0 l1 l2 l3 fz lt
  obtain ⟨l0, l1, l2, l3, fz, lt⟩ := box4_facts hX
  clear hb hR D3 hX HR2 HX2 SL2
  go_wp2_with fail
  have SL3 : Hid (SlB w3 w1.heap.size) := sl_box HX3.out ⟨_, _, _, rfl⟩ ⟨_, _, _, rfl⟩ ⟨_, _, _, rfl⟩ ⟨_, _, _, rfl⟩
  have HR3' : Hid (RlAt ((((w3.setCell ⟨w1.heap.size, 0, none⟩ (.slice e0 R2.s.length f0)).setCell ⟨w1.heap.size, 1, none⟩ (.slice e1 R2.hs.length f1)).setCell ⟨w1.heap.size, 2, none⟩ (.slice e2 R2.i.length f2)).setCell ⟨w1.heap.size, 3, none⟩ (.slice e3 R2.t.length f3)) ⟨e0, e1, e2, e3, f0, f1, f2, f3⟩ R2) := HR3.out.offB SL3.out (OffB.refl _ _).set.set.set.set
  have HX3' : Hid _ := box4_set (u0 := .slice e0 R2.s.length f0) (u1 := .slice e1 R2.hs.length f1) (u2 := .slice e2 R2.i.length f2) (u3 := .slice e3 R2.t.length f3) HX3.out
  have HB3' : Hid (Below w.heap.size w ((((w3.setCell ⟨w1.heap.size, 0, none⟩ (.slice e0 R2.s.length f0)).setCell ⟨w1.heap.size, 1, none⟩ (.slice e1 R2.hs.length f1)).setCell ⟨w1.heap.size, 2, none⟩ (.slice e2 R2.i.length f2)).setCell ⟨w1.heap.size, 3, none⟩ (.slice e3 R2.t.length f3))) := (((HB3.out.setCell HB1.out.size _).setCell HB1.out.size _).setCell HB1.out.size _).setCell HB1.out.size _
  refine Calls.mono (D4.out e0 e1 e2 e3 f0 f1 f2 f3 _ HR3'.out) ?_
  rintro e w4 ⟨g0, g1, g2, g3, h0, h1, h2, h3, rfl, hb, hR⟩
  have HB4 : Hid (Below w.heap.size w w4) := HB3'.out.trans (hb.mono HB3'.out.size)
  have hX : w4.heap[w1.heap.size]? = some (.cells #[.slice e0 R2.s.length f0, .slice e1 R2.hs.length f1, .slice e2 R2.i.length f2, .slice e3 R2.t.length f3] 31 (0, 0)) := (hb.block _ (by simpa using lt)).trans HX3'.out
  have HX4 : Hid (w4.heap[w1.heap.size]? = some (.cells #[.slice e0 R2.s.length f0, .slice e1 R2.hs.length f1, .slice e2 R2.i.length f2, .slice e3 R2.t.length f3] 31 (0, 0))) := hX
  have HR4 : Hid (RlAt w4 ⟨e0, e1, e2, e3, f0, f1, f2, f3⟩ R2) := HR3'.out.below hb
  clear l0 l1 l2 l3 fz lt
  obtain ⟨l0, l1, l2, l3, fz, lt⟩ := box4_facts hX
  clear hb hR D4 hX HR3 HR3' HX3 HX3' SL3 HB3'
  go_wp2_with fail
  refine Calls.mono (D5.out e0 e1 e2 e3 f0 f1 f2 f3 _ (HR4.out.below (one_belowS _ _))) ?_
  rintro e w5 ⟨i0, i1, i2, i3, j0, j1, j2, j3, rfl, hb, hR⟩
  have HB5 : Hid (Below w.heap.size w w5) := HB4.out.trans (((one_belowS w4 _).trans (hb.mono (by simp))).mono HB4.out.size)
  have hX : w5.heap[w1.heap.size]? = some (.cells #[.slice e0 R2.s.length f0, .slice e1 R2.hs.length f1, .slice e2 R2.i.length f2, .slice e3 R2.t.length f3] 31 (0, 0)) := (((one_belowS w4 _).trans (hb.mono (by simp))).block _ lt).trans HX4.out
  clear l0 l1 l2 l3 fz lt
  obtain ⟨l0, l1, l2, l3, fz, lt⟩ := box4_facts hX
  clear hb hR D5 hX HR4 HX4
  rw [LEN.out] at l1
  go_wp2_with fail
  go_ret
  exact ⟨rfl, HB5.out.trans ((one_belowS w5 _).mono HB5.out.size)⟩
end Go.Proofs.YtgjfmepbphfjoaaGreat

namespace Go.Proofs.YtgjfmepbphfjoaaGreat
open Go.RowKit

set_option maxRecDepth 100000 in
set_option maxHeartbeats 2000000 in
theorem attach_err1 (a : Option Addr) (c : Nat) (S : List Nd) (p u E : Int) (cl : Bool) (w : World) (hN : S.length ≤ 9223372036854775807) (hB : Big S) (hS : NdsAt w a S) (hE : findE S p u = E) (hE0 : E ≠ 0) :
    Calls Tryz.prog 113 #[.agg #[.slice a S.length c], .agg #[.int .i64 p, .int .i64 u], .bool cl] w fun e w' => e = .returned (.tuple #[.agg #[.slice none 0 0], .agg #[.int .i64 0, .int .i64 0], .int .i64 E]) ∧ Below w.heap.size w w' := by
  have D0 : Hid (∀ W, NdsAt W a S → Calls _ _ _ _ _) := fun W hW => find_err a c S p u E W hN hB hW hE hE0
  have HS : Hid (NdsAt w a S) := hS
  have hz0 : (E == 0) = false := by simp [hE0]
  clear hS hE hB hN
  generalize S.length = n at *
  have BW : Hid (∀ W, Below (w.heap.size + 1 + 1 + 1 + 1) ((((w.alloc (.cells #[.slice a n c] 24)).alloc (.cells #[.int .i64 p, .int .i64 u] 39)).alloc (.cells #[.slice none 0 0] 24)).alloc (.cells #[.int .i64 0, .int .i64 0] 39)) W → Below w.heap.size w W) := fun W h => (four_below _ _ _ _ _).trans (h.mono (by omega))
  go_enter Tryz.func113, Tryz.ntmps113
  go_wp2_with fail
  refine Calls.mono (D0.out _ (HS.out.below (four_below _ _ _ _ _))) ?_
  rintro e w2 ⟨rfl, hb2⟩
  simp only [World.size_alloc] at hb2
  have HB2 : Hid (Below (w.heap.size + 1 + 1 + 1 + 1) ((((w.alloc (.cells #[.slice a n c] 24)).alloc (.cells #[.int .i64 p, .int .i64 u] 39)).alloc (.cells #[.slice none 0 0] 24)).alloc (.cells #[.int .i64 0, .int .i64 0] 39)) w2) := hb2
  have hs2 := hb2.size
  simp only [World.size_alloc] at hs2
  obtain ⟨l0, l1, l2, l3, l4, l5, l6, l7⟩ := att_low hb2
  have q0 : w.heap.size < w2.heap.size := by omega
  have q1 : w.heap.size + 1 < w2.heap.size := by omega
  have q2 : w.heap.size + 1 + 1 < w2.heap.size := by omega
  have q3 : w.heap.size + 1 + 1 + 1 < w2.heap.size := by omega
  clear hb2
  have HBX : Hid _ := HB2
  go_wp2
  refine bodyPost_ret (v := .tuple #[.agg #[.slice none 0 0], .agg #[.int .i64 0, .int .i64 0], .int .i64 E]) (by simp only [results, Tryz.results113]; go_simp) rfl ⟨rfl, ?_⟩
  have hbo := BW.out _ HBX.out
  have hbs := HBX.out.size
  simp only [World.size_alloc] at hbs
  first
    | exact ((hbo.setCell (by simp; omega) _).setCell (by simp; omega) _).setCell (by simp; omega) _
    | exact (((hbo.setCell (by simp; omega) _).setCell (by simp; omega) _).setCell (by simp; omega) _).drew
    | exact (((hbo.alloc (by omega) _).setCell (by simp; omega) _).setCell (by simp; omega) _).setCell (by simp; omega) _
    | exact (((hbo.setCell (by simp; omega) _).setCell (by simp; omega) _).setCell (by simp; omega) _).alloc (by simp; omega) _
    | exact ((((hbo.alloc (by omega) _).alloc (by simp; omega) _).setCell (by simp; omega) _).setCell (by simp; omega) _).setCell (by simp; omega) _
    | exact ((((hbo.setCell (by simp; omega) _).setCell (by simp; omega) _).setCell (by simp; omega) _).alloc (by simp; omega) _).alloc (by simp; omega) _

set_option maxRecDepth 100000 in
set_option maxHeartbeats 2000000 in
theorem attach_err2 (a : Option Addr) (c : Nat) (S : List Nd) (k : Nat) (u : Int) (cl : Bool) (w : World) (wf : WF S) (hS : NdsAt w a S) (hk : k < S.length) (hE : findE S k u = 0) (hH : hostB S k = true) :
    Calls Tryz.prog 113 #[.agg #[.slice a S.length c], .agg #[.int .i64 (k : Int), .int .i64 u], .bool cl] w fun e w' => e = .returned (.tuple #[.agg #[.slice none 0 0], .agg #[.int .i64 0, .int .i64 0], .int .i64 6]) ∧ Below w.heap.size w w' := by
  have hN := wf.small
  have D0 : Hid (∀ W, NdsAt W a S → Calls _ _ _ _ _) := fun W hW => find_ok a c S k u W (by omega) wf.big hW hk hE (by have := wf.kids_small hk; omega)
  have d1 := fun W hW => isHost_any a c S (k : Int) W (by omega) hW (by omega)
  rw [hH] at d1
  have D1 : Hid _ := d1
  have HS : Hid (NdsAt w a S) := hS
  clear hS wf hE hH d1
  obtain ⟨x0, hx0⟩ : ∃ x, nd S k = x := ⟨_, rfl⟩
  rw [hx0] at D0
  clear hx0
  generalize S.length = n at *
  have BW : Hid (∀ W, Below (w.heap.size + 1 + 1 + 1 + 1) ((((w.alloc (.cells #[.slice a n c] 24)).alloc (.cells #[.int .i64 (k : Int), .int .i64 u] 39)).alloc (.cells #[.slice none 0 0] 24)).alloc (.cells #[.int .i64 0, .int .i64 0] 39)) W → Below w.heap.size w W) := fun W h => (four_below _ _ _ _ _).trans (h.mono (by omega))
  go_enter Tryz.func113, Tryz.ntmps113
  go_wp2_with fail
  refine Calls.mono (D0.out _ (HS.out.below (four_below _ _ _ _ _))) ?_
  rintro e w2 ⟨fg, rfl, hb2, _⟩
  simp only [World.size_alloc] at hb2
  have HB2 : Hid (Below (w.heap.size + 1 + 1 + 1 + 1) ((((w.alloc (.cells #[.slice a n c] 24)).alloc (.cells #[.int .i64 (k : Int), .int .i64 u] 39)).alloc (.cells #[.slice none 0 0] 24)).alloc (.cells #[.int .i64 0, .int .i64 0] 39)) w2) := hb2
  have hs2 := hb2.size
  simp only [World.size_alloc] at hs2
  obtain ⟨l0, l1, l2, l3, l4, l5, l6, l7⟩ := att_low hb2
  have q0 : w.heap.size < w2.heap.size := by omega
  have q1 : w.heap.size + 1 < w2.heap.size := by omega
  have q2 : w.heap.size + 1 + 1 < w2.heap.size := by omega
  have q3 : w.heap.size + 1 + 1 + 1 < w2.heap.size := by omega
  clear hb2
  go_wp2_with fail
  refine Calls.mono (D1.out _ (HS.out.below (BW.out _ (HB2.out.alloc (by omega) _)))) ?_
  rintro e w3 ⟨rfl, hb3⟩
  simp only [World.size_alloc] at hb3
  have HB3 : Hid (Below (w.heap.size + 1 + 1 + 1 + 1) ((((w.alloc (.cells #[.slice a n c] 24)).alloc (.cells #[.int .i64 (k : Int), .int .i64 u] 39)).alloc (.cells #[.slice none 0 0] 24)).alloc (.cells #[.int .i64 0, .int .i64 0] 39)) w3) := (HB2.out.alloc (by omega) _).trans (hb3.mono (by omega))
  have hs3 := hb3.size
  simp only [World.size_alloc] at hs3
  clear hb3 l0 l1 l2 l3 l4 l5 l6 l7 q0 q1 q2 q3
  obtain ⟨l0, l1, l2, l3, l4, l5, l6, l7⟩ := att_low HB3.out
  have q0 : w.heap.size < w3.heap.size := by omega
  have q1 : w.heap.size + 1 < w3.heap.size := by omega
  have q2 : w.heap.size + 1 + 1 < w3.heap.size := by omega
  have q3 : w.heap.size + 1 + 1 + 1 < w3.heap.size := by omega
  have HBX : Hid _ := HB3
  go_wp2
  refine bodyPost_ret (v := .tuple #[.agg #[.slice none 0 0], .agg #[.int .i64 0, .int .i64 0], .int .i64 6]) (by simp only [results, Tryz.results113]; go_simp) rfl ⟨rfl, ?_⟩
  have hbo := BW.out _ HBX.out
  have hbs := HBX.out.size
  simp only [World.size_alloc] at hbs
  first
    | exact ((hbo.setCell (by simp; omega) _).setCell (by simp; omega) _).setCell (by simp; omega) _
    | exact (((hbo.setCell (by simp; omega) _).setCell (by simp; omega) _).setCell (by simp; omega) _).drew
    | exact (((hbo.alloc (by omega) _).setCell (by simp; omega) _).setCell (by simp; omega) _).setCell (by simp; omega) _
    | exact (((hbo.setCell (by simp; omega) _).setCell (by simp; omega) _).setCell (by simp; omega) _).alloc (by simp; omega) _
    | exact ((((hbo.alloc (by omega) _).alloc (by simp; omega) _).setCell (by simp; omega) _).setCell (by simp; omega) _).setCell (by simp; omega) _
    | exact ((((hbo.setCell (by simp; omega) _).setCell (by simp; omega) _).setCell (by simp; omega) _).alloc (by simp; omega) _).alloc (by simp; omega) _

set_option maxRecDepth 100000 in
set_option maxHeartbeats 2000000 in
theorem attach_err3 (a : Option Addr) (c : Nat) (S : List Nd) (k : Nat) (u E : Int) (cl : Bool) (w : World) (wf : WF S) (hS : NdsAt w a S) (hk : k < S.length) (hE : findE S k u = 0) (hH : hostB S k = false) (hM : makeE S 0 = E) (hM0 : E ≠ 0) :
    Calls Tryz.prog 113 #[.agg #[.slice a S.length c], .agg #[.int .i64 (k : Int), .int .i64 u], .bool cl] w fun e w' => e = .returned (.tuple #[.agg #[.slice none 0 0], .agg #[.int .i64 0, .int .i64 0], .int .i64 E]) ∧ Below w.heap.size w w' := by
  have hN := wf.small
  have D0 : Hid (∀ W, NdsAt W a S → Calls _ _ _ _ _) := fun W hW => find_ok a c S k u W (by omega) wf.big hW hk hE (by have := wf.kids_small hk; omega)
  have d1 := fun W hW => isHost_any a c S (k : Int) W (by omega) hW (by omega)
  rw [hH] at d1
  have D1 : Hid _ := d1
  have D2 : Hid (∀ W, NdsAt W a S → Calls _ _ _ _ _) := fun W hW => make_err a c S 0 E W (by omega) wf.big hW hM hM0
  have HS : Hid (NdsAt w a S) := hS
  have hz0 : (E == 0) = false := by simp [hM0]
  clear hS wf hE hH d1 hM
  obtain ⟨x0, hx0⟩ : ∃ x, nd S k = x := ⟨_, rfl⟩
  rw [hx0] at D0
  clear hx0
  generalize S.length = n at *
  have BW : Hid (∀ W, Below (w.heap.size + 1 + 1 + 1 + 1) ((((w.alloc (.cells #[.slice a n c] 24)).alloc (.cells #[.int .i64 (k : Int), .int .i64 u] 39)).alloc (.cells #[.slice none 0 0] 24)).alloc (.cells #[.int .i64 0, .int .i64 0] 39)) W → Below w.heap.size w W) := fun W h => (four_below _ _ _ _ _).trans (h.mono (by omega))
  go_enter Tryz.func113, Tryz.ntmps113
  go_wp2_with fail
  refine Calls.mono (D0.out _ (HS.out.below (four_below _ _ _ _ _))) ?_
  rintro e w2 ⟨fg, rfl, hb2, _⟩
  simp only [World.size_alloc] at hb2
  have HB2 : Hid (Below (w.heap.size + 1 + 1 + 1 + 1) ((((w.alloc (.cells #[.slice a n c] 24)).alloc (.cells #[.int .i64 (k : Int), .int .i64 u] 39)).alloc (.cells #[.slice none 0 0] 24)).alloc (.cells #[.int .i64 0, .int .i64 0] 39)) w2) := hb2
  have hs2 := hb2.size
  simp only [World.size_alloc] at hs2
  obtain ⟨l0, l1, l2, l3, l4, l5, l6, l7⟩ := att_low hb2
  have q0 : w.heap.size < w2.heap.size := by omega
  have q1 : w.heap.size + 1 < w2.heap.size := by omega
  have q2 : w.heap.size + 1 + 1 < w2.heap.size := by omega
  have q3 : w.heap.size + 1 + 1 + 1 < w2.heap.size := by omega
  clear hb2
  go_wp2_with fail
  refine Calls.mono (D1.out _ (HS.out.below (BW.out _ (HB2.out.alloc (by omega) _)))) ?_
  rintro e w3 ⟨rfl, hb3⟩
  simp only [World.size_alloc] at hb3
  have HB3 : Hid (Below (w.heap.size + 1 + 1 + 1 + 1) ((((w.alloc (.cells #[.slice a n c] 24)).alloc (.cells #[.int .i64 (k : Int), .int .i64 u] 39)).alloc (.cells #[.slice none 0 0] 24)).alloc (.cells #[.int .i64 0, .int .i64 0] 39)) w3) := (HB2.out.alloc (by omega) _).trans (hb3.mono (by omega))
  have hs3 := hb3.size
  simp only [World.size_alloc] at hs3
  clear hb3 l0 l1 l2 l3 l4 l5 l6 l7 q0 q1 q2 q3
  obtain ⟨l0, l1, l2, l3, l4, l5, l6, l7⟩ := att_low HB3.out
  have q0 : w.heap.size < w3.heap.size := by omega
  have q1 : w.heap.size + 1 < w3.heap.size := by omega
  have q2 : w.heap.size + 1 + 1 < w3.heap.size := by omega
  have q3 : w.heap.size + 1 + 1 + 1 < w3.heap.size := by omega
  go_wp2_with fail
  refine Calls.mono (D2.out _ (HS.out.below (BW.out _ HB3.out))) ?_
  rintro e w4 ⟨rfl, hb4⟩
  have HB4 : Hid (Below (w.heap.size + 1 + 1 + 1 + 1) ((((w.alloc (.cells #[.slice a n c] 24)).alloc (.cells #[.int .i64 (k : Int), .int .i64 u] 39)).alloc (.cells #[.slice none 0 0] 24)).alloc (.cells #[.int .i64 0, .int .i64 0] 39)) w4) := HB3.out.trans (hb4.mono (by omega))
  have hs4 := hb4.size
  clear hb4 l0 l1 l2 l3 l4 l5 l6 l7 q0 q1 q2 q3
  obtain ⟨l0, l1, l2, l3, l4, l5, l6, l7⟩ := att_low HB4.out
  have q0 : w.heap.size < w4.heap.size := by omega
  have q1 : w.heap.size + 1 < w4.heap.size := by omega
  have q2 : w.heap.size + 1 + 1 < w4.heap.size := by omega
  have q3 : w.heap.size + 1 + 1 + 1 < w4.heap.size := by omega
  have HBX : Hid _ := HB4
  go_wp2
  refine bodyPost_ret (v := .tuple #[.agg #[.slice none 0 0], .agg #[.int .i64 0, .int .i64 0], .int .i64 E]) (by simp only [results, Tryz.results113]; go_simp) rfl ⟨rfl, ?_⟩
  have hbo := BW.out _ HBX.out
  have hbs := HBX.out.size
  simp only [World.size_alloc] at hbs
  first
    | exact ((hbo.setCell (by simp; omega) _).setCell (by simp; omega) _).setCell (by simp; omega) _
    | exact (((hbo.setCell (by simp; omega) _).setCell (by simp; omega) _).setCell (by simp; omega) _).drew
    | exact (((hbo.alloc (by omega) _).setCell (by simp; omega) _).setCell (by simp; omega) _).setCell (by simp; omega) _
    | exact (((hbo.setCell (by simp; omega) _).setCell (by simp; omega) _).setCell (by simp; omega) _).alloc (by simp; omega) _
    | exact ((((hbo.alloc (by omega) _).alloc (by simp; omega) _).setCell (by simp; omega) _).setCell (by simp; omega) _).setCell (by simp; omega) _
    | exact ((((hbo.setCell (by simp; omega) _).setCell (by simp; omega) _).setCell (by simp; omega) _).alloc (by simp; omega) _).alloc (by simp; omega) _
end Go.Proofs.YtgjfmepbphfjoaaGreat
