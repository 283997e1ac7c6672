/-
  The contracts of isHost, rightUnder and Free, over nodes that stand nowhere.
-/
import Derived.Test.YtefjjbbommgknaaF
import Derived.Deep.RegionWith
namespace Go.Proofs.Ytefjjbbommgknaa
open Go.RowKit

set_option maxHeartbeats 800000 in
theorem noHost_none (b n c : Nat) (f : Nat → Nd) (q : Nat) (x : Int) (w : World) (hn : n ≤ 24) (hS : Sto w b n f) (hq : w.cell? ⟨q, 0, none⟩ = some (.int .i64 x)) (hqw : q < w.heap.size) (hall : ∀ i, i < n → (f i).h ≠ x) :
    Calls Try.prog 28 #[.slice (some ⟨b, 0, none⟩) n c, .func (.func 54) #[] #[.pointer (some ⟨q, 0, none⟩)]] w fun e w' => e = .returned (.int .i64 (-1)) ∧ Below w.heap.size w w' := by
  have hbw := hS.lt
  have HS : Hid (Sto w b n f) := hS
  have HA : Hid (∀ i, i < n → (f i).h ≠ x) := hall
  clear hS hall
  go_enter Try.func28, Try.ntmps28
  go_wp2
  go_loopg [8] n (fun g s8 wr => ∃ k : Nat, k ≤ n ∧ n - k ≤ g ∧ s8 = .int .i64 k ∧ Below w.heap.size w wr)
  case atStart => exact ⟨0, by omega, by omega, rfl, Below.refl _ _⟩
  case round =>
    obtain ⟨k, hk, hg, rfl, hb⟩ := hrel
    by_cases hlt : k < n
    · obtain ⟨c0, c1, c2, c3, c4, ⟨ka, kc, c5⟩, c6, c7⟩ := (HS.out.node hlt).below hb hbw
      rw [← hb.cell (by exact hqw)] at hq
      have hx := HA.out k hlt
      have hx' : ((f k).h == x) = false := by simpa using hx
      generalize (f k).h = y at *
      have HX : Hid (y ≠ x) := hx
      clear hx
      have hqr : q < wr.heap.size := by have := hb.size; omega
      go_wp2
      go_roundg (n - (k + 1))
      case measure => omega
      case rel => exact ⟨k + 1, by omega, by omega, by go_num, hb.alloc hb.size _⟩
    · have : k = n := by omega
      subst this
      go_wp2
      go_ret
      exact ⟨rfl, hb⟩

set_option maxHeartbeats 800000 in
theorem isHost_no (b n c : Nat) (f : Nat → Nd) (x : Int) (w : World) (hn : n ≤ 24) (hS : Sto w b n f) (hall : ∀ i, i < n → (f i).h ≠ x) :
    Calls Try.prog 32 #[.agg #[.slice (some ⟨b, 0, none⟩) n c], .int .i64 x] w fun e w' => e = .returned (.bool false) ∧ Below w.heap.size w w' := by
  have HS : Hid (Sto w b n f) := hS
  have HA : Hid (∀ i, i < n → (f i).h ≠ x) := hall
  clear hS hall
  go_enter Try.func32, Try.ntmps32
  go_wp2_with (first
    | (go_at_call 28; refine (noHost_none b n c f (w.heap.size + 1) x _ hn ((HS.out.alloc _).alloc _) (by go_simp) (by simp) HA.out).mono ?_; rintro e w1 ⟨rfl, hb1⟩)
    | go_in)
  go_ret
  exact ⟨rfl, (((Below.refl _ _).alloc (Nat.le_refl _) _).alloc (by simp) _).trans (hb1.mono (by simp; omega))⟩

set_option maxHeartbeats 400000 in
theorem rightUnder_none (v0 : Bool) (n v2 v3 : Int) (k : Value) (v7 : Bool) (w : World) :
    Calls Try.prog 31 #[.agg #[.bool v0, .int .i64 n, .int .i64 v2, .int .i64 v3, .int .i64 (-1), k, .int .i64 (-1), .bool v7]] w fun e w' => e = .returned (.int .i64 (-1)) ∧ Below w.heap.size w w' := by
  go_enter Try.func31, Try.ntmps31
  go_wp2
  go_ret
  exact ⟨rfl, (Below.refl _ _).alloc (Nat.le_refl _) _⟩

theorem free_low {w w1 : World} {v : Value} {x y : Int} (hb : Below (w.heap.size + 1 + 1 + 1) (((w.alloc (.cells #[v] 29)).alloc (.cells #[.int .i64 x, .int .i64 y] 33)).alloc (.cells #[.slice none 0 0] 29)) w1) :
    w1.cell? ⟨w.heap.size, 0, none⟩ = some v ∧ w1.cell? ⟨w.heap.size + 1, 0, none⟩ = some (.int .i64 x) ∧ w1.cell? ⟨w.heap.size + 1, 1, none⟩ = some (.int .i64 y) ∧ w1.cell? ⟨w.heap.size + 1 + 1, 0, none⟩ = some (.slice none 0 0) ∧ w1.frozen? ⟨w.heap.size + 1 + 1, 0, none⟩ = false :=
  ⟨(hb.cell (by simp; omega)).trans (by go_simp), (hb.cell (by simp)).trans (by go_simp), (hb.cell (by simp)).trans (by go_simp), (hb.cell (by simp)).trans (by go_simp), (hb.frozen (by simp)).trans (by go_simp)⟩

set_option maxHeartbeats 800000 in
theorem free_gone (b n c : Nat) (f : Nat → Nd) (k : Nat) (x : Int) (w : World) (hn : n ≤ 24) (hS : Sto w b n f) (hk : k < n) (h1 : 1 ≤ x) (h2 : x ≤ (f k).n) (hu : (f k).u = false ∨ x < (f k).n) :
    Calls Try.prog 12 #[.agg #[.slice (some ⟨b, 0, none⟩) n c], .agg #[.int .i64 k, .int .i64 x]] w fun e w' => e = .returned (.tuple #[.agg #[.slice none 0 0], .int .i64 5]) ∧ Below w.heap.size w w' := by
  have HS : Hid (Sto w b n f) := hS
  have HU : Hid ((f k).u = false ∨ x < (f k).n) := hu
  clear hS hu
  go_enter Try.func12, Try.ntmps12
  go_wp2_with (go_at_call 21; refine (find_gone b n c f k x _ hn (((HS.out.alloc _).alloc _).alloc _) hk h1 h2 HU.out).mono ?_; rintro e w1 ⟨rfl, hb1⟩; simp only [World.size_alloc] at hb1; obtain ⟨l0, l1, l2, l3, z3⟩ := free_low hb1; have hs1 := hb1.size; simp only [World.size_alloc] at hs1; have q0 : w.heap.size < w1.heap.size := (by omega); have q1 : w.heap.size + 1 < w1.heap.size := (by omega); have q2 : w.heap.size + 1 + 1 < w1.heap.size := (by omega))
  refine bodyPost_ret (v := .tuple #[.agg #[.slice none 0 0], .int .i64 5]) (by simp only [results, Try.results12]; go_simp) rfl ⟨rfl, ?_⟩
  have hbo : Below w.heap.size w w1 := ((((Below.refl _ _).alloc (Nat.le_refl _) _).alloc (by simp) _).alloc (by simp; omega) _).trans (hb1.mono (by omega))
  exact (hbo.setCell (by simp; omega) _).alloc (by simp; omega) _

theorem free_mid {B : Nat} {W w1 w2 : World} {a0 a1 a2 a3 a4 a5 a6 a7 : Value} (hb1 : Below B W w1) (hs : B ≤ w1.heap.size) (hb2 : Below (w1.heap.size + 1) (w1.alloc (.cells #[a0, a1, a2, a3, a4, a5, a6, a7] 39)) w2) :
    Below B W w2 ∧ w2.cell? ⟨w1.heap.size, 0, none⟩ = some a0 ∧ w2.cell? ⟨w1.heap.size, 1, none⟩ = some a1 ∧ w2.cell? ⟨w1.heap.size, 2, none⟩ = some a2 ∧ w2.cell? ⟨w1.heap.size, 3, none⟩ = some a3 ∧ w2.cell? ⟨w1.heap.size, 4, none⟩ = some a4 ∧ w2.cell? ⟨w1.heap.size, 5, none⟩ = some a5 ∧ w2.cell? ⟨w1.heap.size, 6, none⟩ = some a6 ∧ w2.cell? ⟨w1.heap.size, 7, none⟩ = some a7 :=
  ⟨(hb1.alloc hs _).trans (hb2.mono (by omega)), (hb2.cell (by simp)).trans (by go_simp), (hb2.cell (by simp)).trans (by go_simp), (hb2.cell (by simp)).trans (by go_simp), (hb2.cell (by simp)).trans (by go_simp), (hb2.cell (by simp)).trans (by go_simp), (hb2.cell (by simp)).trans (by go_simp), (hb2.cell (by simp)).trans (by go_simp), (hb2.cell (by simp)).trans (by go_simp)⟩

set_option maxHeartbeats 1600000 in
theorem free_ok (b n c : Nat) (f : Nat → Nd) (k : Nat) (w : World) (hn : n ≤ 24) (hS : Sto w b n f) (hk : k < n) (hu : (f k).u = true) (h1 : 1 ≤ (f k).n) (hp : (f k).p = -1) (hh : (f k).h = -1) (hall : ∀ i, i < n → (f i).h ≠ k) :
    Calls Try.prog 12 #[.agg #[.slice (some ⟨b, 0, none⟩) n c], .agg #[.int .i64 k, .int .i64 (f k).n]] w fun e w' => ∃ g, e = .returned (.tuple #[.agg #[.slice (some ⟨g, 0, none⟩) n n], .int .i64 0]) ∧ Below w.heap.size w w' ∧ w.heap.size ≤ g ∧
      Sto w' g n (fun i => if i = k then ⟨false, (f k).n, 0, 0, -1, -1, false⟩ else f i) := by
  have HS : Hid (Sto w b n f) := hS
  have HU : Hid ((f k).u = true) := hu
  have HP : Hid ((f k).p = -1) := hp
  have HH : Hid ((f k).h = -1) := hh
  have HA : Hid (∀ i, i < n → (f i).h ≠ k) := hall
  clear hS hu hp hh hall
  go_enter Try.func12, Try.ntmps12
  go_wp2_with (go_at_call 21; refine (find_ok b n c f k _ hn (((HS.out.alloc _).alloc _).alloc _) hk HU.out h1).mono ?_; rintro e w1 ⟨ka, kc, rfl, hb1⟩; simp only [World.size_alloc] at hb1; obtain ⟨l0, l1, l2, l3, z3⟩ := free_low hb1; have hs1 := hb1.size; simp only [World.size_alloc] at hs1; have q0 : w.heap.size < w1.heap.size := (by omega); have q1 : w.heap.size + 1 < w1.heap.size := (by omega); have q2 : w.heap.size + 1 + 1 < w1.heap.size := (by omega); rw [HP.out, HH.out])
  refine (rightUnder_none _ _ _ _ _ _ _).mono ?_
  rintro e w2 ⟨rfl, hb2⟩
  simp only [World.size_alloc] at hb2
  obtain ⟨hb12, n0, n1, n2, n3, n4, n5, n6, n7⟩ := free_mid hb1 hs1 hb2
  have hs2 := hb2.size
  simp only [World.size_alloc] at hs2
  clear l0 l1 l2 l3 z3
  obtain ⟨l0, l1, l2, l3, z3⟩ := free_low hb12
  have HB1 : Hid (Below (w.heap.size + 1 + 1 + 1) (((w.alloc (.cells #[.slice (some ⟨b, 0, none⟩) n c] 29)).alloc (.cells #[.int .i64 k, .int .i64 (f k).n] 33)).alloc (.cells #[.slice none 0 0] 29)) w1) := hb1
  have HB2 : Hid (Below (w1.heap.size + 1) (w1.alloc (.cells #[.bool (f k).u, .int .i64 (f k).n, .int .i64 (f k).t, .int .i64 (f k).m, .int .i64 (-1), .slice ka 0 kc, .int .i64 (-1), .bool (f k).c] 39)) w2) := hb2
  have HB12 : Hid (Below (w.heap.size + 1 + 1 + 1) (((w.alloc (.cells #[.slice (some ⟨b, 0, none⟩) n c] 29)).alloc (.cells #[.int .i64 k, .int .i64 (f k).n] 33)).alloc (.cells #[.slice none 0 0] 29)) w2) := hb12
  clear hb1 hb2 hb12
  go_wp2_with fail
  have hbw := HS.out.lt
  have hS2 : Sto w2 b n f := (((HS.out.alloc _).alloc _).alloc _).below HB12.out (by omega)
  refine (isHost_no b n c f k w2 hn hS2 HA.out).mono ?_
  rintro e w3 ⟨rfl, hb3⟩
  have hb23 := HB2.out.trans (hb3.mono hs2)
  have hs3 := hb3.size
  have hS3 : Sto w3 b n f := hS2.below hb3 hS2.lt
  clear l0 l1 l2 l3 z3 n0 n1 n2 n3 n4 n5 n6 n7 hS2 hb3 HB2 HB12
  obtain ⟨hb13, n0, n1, n2, n3, n4, n5, n6, n7⟩ := free_mid HB1.out hs1 hb23
  obtain ⟨l0, l1, l2, l3, z3⟩ := free_low hb13
  have HB23 : Hid (Below (w1.heap.size + 1) (w1.alloc (.cells #[.bool (f k).u, .int .i64 (f k).n, .int .i64 (f k).t, .int .i64 (f k).m, .int .i64 (-1), .slice ka 0 kc, .int .i64 (-1), .bool (f k).c] 39)) w3) := hb23
  have HS3 : Hid (Sto w3 b n f) := hS3
  clear hb13 hb23 hS3
  have r1 : w1.heap.size < w3.heap.size := by omega
  go_wp2_with fail
  refine (copyStore_any b n c f w3 hn HS3.out).mono ?_
  rintro e w4 ⟨g, rfl, hb4, hg, hS4⟩
  have hs34 : w1.heap.size + 1 ≤ w3.heap.size := by omega
  have hb24 := HB23.out.trans (hb4.mono hs34)
  have hs4 := hb4.size
  clear l0 l1 l2 l3 z3 n0 n1 n2 n3 n4 n5 n6 n7 HB23 HS3
  obtain ⟨hb14, n0, n1, n2, n3, n4, n5, n6, n7⟩ := free_mid HB1.out hs1 hb24
  obtain ⟨l0, l1, l2, l3, z3⟩ := free_low hb14
  obtain ⟨d0, d1, d2, d3, d4, ⟨la, lc, d5⟩, d6, d7⟩ := hS4.node hk
  have hfz := hS4.frozen
  have hglt := hS4.lt
  have hgge : w1.heap.size < g := by omega
  have HS4 : Hid (Sto w4 g n f) := hS4
  have HB14 : Hid (Below (w.heap.size + 1 + 1 + 1) (((w.alloc (.cells #[.slice (some ⟨b, 0, none⟩) n c] 29)).alloc (.cells #[.int .i64 k, .int .i64 (f k).n] 33)).alloc (.cells #[.slice none 0 0] 29)) w4) := hb14
  clear hb14 hb24 hS4 hb4 hg
  go_wp2_with fail
  have t1 : w1.heap.size < w4.heap.size := by omega
  obtain ⟨W5, hW5⟩ : ∃ W5, W5 = w4.alloc (Obj.cells #[Value.slice (some ⟨g, 0, none⟩) n n] 29) := ⟨_, rfl⟩
  rw [← hW5]
  have k8 : W5.cell? ⟨w4.heap.size, 0, none⟩ = some (.slice (some ⟨g, 0, none⟩) n n) := by rw [hW5]; go_simp
  have k9 : W5.cell? ⟨w1.heap.size, 1, none⟩ = some (.int .i64 (f k).n) := by rw [hW5]; go_simp
  have hsz : W5.heap.size = w4.heap.size + 1 := by rw [hW5]; simp
  have hb5 : Below (w.heap.size + 1 + 1 + 1) (((w.alloc (.cells #[.slice (some ⟨b, 0, none⟩) n c] 29)).alloc (.cells #[.int .i64 k, .int .i64 (f k).n] 33)).alloc (.cells #[.slice none 0 0] 29)) W5 := by
    rw [hW5]
    exact HB14.out.alloc (by omega) _
  have hS5 : Sto W5 g n f := by
    rw [hW5]
    exact HS4.out.alloc _
  clear l0 l1 l2 l3 z3 n0 n1 n2 n3 n4 n5 n6 n7 d0 d1 d2 d3 d4 d5 d6 d7 hfz HS4 HB14 hW5
  obtain ⟨l0, l1, l2, l3, z3⟩ := free_low hb5
  obtain ⟨d0, d1, d2, d3, d4, ⟨la, lc, d5⟩, d6, d7⟩ := hS5.node hk
  have hfz := hS5.frozen
  have u1 : w4.heap.size < W5.heap.size := by omega
  have u2 : w1.heap.size < W5.heap.size := by omega
  have u3 : w.heap.size + 1 < W5.heap.size := by omega
  have u4 : w.heap.size + 1 + 1 < W5.heap.size := by omega
  have u5 : g < W5.heap.size := by omega
  have u6 : w.heap.size + 1 + 1 < g := by omega
  have HS5 : Hid (Sto W5 g n f) := hS5
  have HB5 : Hid (Below (w.heap.size + 1 + 1 + 1) (((w.alloc (.cells #[.slice (some ⟨b, 0, none⟩) n c] 29)).alloc (.cells #[.int .i64 k, .int .i64 (f k).n] 33)).alloc (.cells #[.slice none 0 0] 29)) W5) := hb5
  have HSZ : Hid (W5.heap.size = w4.heap.size + 1) := hsz
  clear hS5 hb5 hsz
  have hbo : Below w.heap.size w W5 := ((((Below.refl _ _).alloc (Nat.le_refl _) _).alloc (by simp) _).alloc (by simp; omega) _).trans (HB5.out.mono (by omega))
  have HBO : Hid (Below w.heap.size w W5) := hbo
  clear hbo
  have HF : Hid (∀ o, Below w.heap.size w ((((((((((W5.setCell ⟨g, k * 8, none⟩ (.bool false)).setCell ⟨g, k * 8 + 1, none⟩ (.int .i64 (f k).n)).setCell ⟨g, k * 8 + 2, none⟩ (.int .i64 0)).setCell ⟨g, k * 8 + 3, none⟩ (.int .i64 0)).setCell ⟨g, k * 8 + 4, none⟩ (.int .i64 (-1))).setCell ⟨g, k * 8 + 5, none⟩ (.slice none 0 0)).setCell ⟨g, k * 8 + 6, none⟩ (.int .i64 (-1))).setCell ⟨g, k * 8 + 7, none⟩ (.bool false)).setCell ⟨w.heap.size + 1 + 1, 0, none⟩ (.slice (some ⟨g, 0, none⟩) n n)).alloc o) ∧
      Sto ((((((((((W5.setCell ⟨g, k * 8, none⟩ (.bool false)).setCell ⟨g, k * 8 + 1, none⟩ (.int .i64 (f k).n)).setCell ⟨g, k * 8 + 2, none⟩ (.int .i64 0)).setCell ⟨g, k * 8 + 3, none⟩ (.int .i64 0)).setCell ⟨g, k * 8 + 4, none⟩ (.int .i64 (-1))).setCell ⟨g, k * 8 + 5, none⟩ (.slice none 0 0)).setCell ⟨g, k * 8 + 6, none⟩ (.int .i64 (-1))).setCell ⟨g, k * 8 + 7, none⟩ (.bool false)).setCell ⟨w.heap.size + 1 + 1, 0, none⟩ (.slice (some ⟨g, 0, none⟩) n n)).alloc o) g n (fun i => if i = k then ⟨false, (f k).n, 0, 0, -1, -1, false⟩ else f i)) := by
    intro o
    refine ⟨?_, ?_⟩
    · exact (((((((((HBO.out.setCell (by simp; omega) _).setCell (by simp; omega) _).setCell (by simp; omega) _).setCell (by simp; omega) _).setCell (by simp; omega) _).setCell (by simp; omega) _).setCell (by simp; omega) _).setCell (by simp; omega) _).setCell (by simp; omega) _).alloc (by simp; omega) _
    · exact ((HS5.out.set8 (k := k) ⟨false, (f k).n, 0, 0, -1, -1, false⟩ none 0).setOther (by simp; omega) _).alloc _
  clear HBO HS5 HB5 HB1 HS HA HP HH HU
  go_region_with (go_at_call 26; refine (unused_any _ _).mono ?_; rintro e w' ⟨rfl, rfl⟩)
  all_goals (try go_wp2)
  all_goals exact bodyPost_ret (v := .tuple #[.agg #[.slice (some ⟨g, 0, none⟩) n n], .int .i64 0]) (by simp only [results, Try.results12]; go_simp) rfl ⟨g, rfl, (HF.out _).1.drew, by omega, (HF.out _).2.drew⟩
end Go.Proofs.Ytefjjbbommgknaa
