/-
  The closed fact stored is true, in whatever memory.
-/
import Derived.Test.YtiekhgpnmcffiaaJXe
namespace Go.Proofs.Ytiekhgpnmcffiaa.Room
open Go.RowKit

/-- One place: used or not, how often, its tag. -/
def one (u : Bool) (n t : Int) : Nat → Nd := fun _ => ⟨u, n, t, 0, -1, [], -1, false⟩

theorem Sto.one_of {w : World} {g : Nat} {f : Nat → Nd} (h : Sto w g 1 f) {u : Bool} {n t : Int} (e : f 0 = ⟨u, n, t, 0, -1, [], -1, false⟩) : Sto w g 1 (one u n t) :=
  h.congr (fun i hi => by have : i = 0 := (by omega); subst this; exact e)

theorem make_one (b c : Nat) (n t0 t : Int) (w : World) (hS : Sto w b 1 (one false n t0)) (h0 : 0 ≤ n) (h1 : n < 1000000) (ht0 : 0 ≤ t) (ht1 : t ≤ 99) :
    Calls Try.prog 12 #[.agg #[.slice (some ⟨b, 0, none⟩) 1 c], .int .i64 t] w fun e w' => ∃ g, e = .returned (.tuple #[.agg #[.slice (some ⟨g, 0, none⟩) 1 1], .agg #[.int .i64 0, .int .i64 (n + 1)], .int .i64 0]) ∧ Below w.heap.size w w' ∧ w.heap.size ≤ g ∧ Sto w' g 1 (one true (n + 1) t) := by
  refine (make_ok b 1 c (one false n t0) t w (by omega) hS ht0 ht1 0 (by omega) rfl h0 h1 (fun i hi => by omega)).mono ?_
  rintro e w' ⟨g, rfl, hb, hg, hS'⟩
  exact ⟨g, rfl, hb, hg, hS'.one_of rfl⟩

theorem free_one (b c : Nat) (n t : Int) (w : World) (hS : Sto w b 1 (one true n t)) (h1 : 1 ≤ n) :
    Calls Try.prog 14 #[.agg #[.slice (some ⟨b, 0, none⟩) 1 c], .agg #[.int .i64 0, .int .i64 n]] w fun e w' => ∃ g, e = .returned (.tuple #[.agg #[.slice (some ⟨g, 0, none⟩) 1 1], .int .i64 0]) ∧ Below w.heap.size w w' ∧ w.heap.size ≤ g ∧ Sto w' g 1 (one false n 0) := by
  refine (free_ok b 1 c (one true n t) 0 w (by omega) hS (by omega) rfl h1 rfl rfl (fun i hi => by simp [one])).mono ?_
  rintro e w' ⟨g, rfl, hb, hg, hS'⟩
  exact ⟨g, rfl, hb, hg, hS'.one_of rfl⟩

theorem find_one (b c : Nat) (n t : Int) (w : World) (hS : Sto w b 1 (one true n t)) (h1 : 1 ≤ n) :
    Calls Try.prog 13 #[.agg #[.slice (some ⟨b, 0, none⟩) 1 c], .agg #[.int .i64 0, .int .i64 n]] w fun e w' => ∃ ka kc, e = .returned (.tuple #[.agg #[.bool true, .int .i64 n, .int .i64 t, .int .i64 0, .int .i64 (-1), .slice ka 0 kc, .int .i64 (-1), .bool false], .int .i64 0]) ∧ Below w.heap.size w w' :=
  find_ok b 1 c (one true n t) 0 w (by omega) hS (by omega) rfl h1

theorem gone_one (b c : Nat) (n t x : Int) (w : World) (hS : Sto w b 1 (one true n t)) (h1 : 1 ≤ x) (h2 : x < n) :
    Calls Try.prog 22 #[.agg #[.slice (some ⟨b, 0, none⟩) 1 c], .agg #[.int .i64 0, .int .i64 x]] w fun e w' => e = .returned (.int .i64 5) ∧ Below w.heap.size w w' :=
  holds_gone b 1 c (one true n t) 0 x w (by omega) hS (by omega) h1 (by show x ≤ n; omega) (Or.inr h2)

set_option maxHeartbeats 1600000 in
theorem stored_any (w : World) :
    Calls Try.prog 18 #[] w fun e w' => e = .returned (.bool true) ∧ Below w.heap.size w w' := by
  go_enter Try.func18, Try.ntmps18
  go_wp2_with fail
  refine (new_any 1 w (by omega)).mono ?_
  rintro e w1 ⟨g0, rfl, hb1, hg0, hS1⟩
  have hs1 := hb1.size
  have hl1 := hS1.lt
  have HS1 : Hid (Sto w1 g0 1 (one false 0 0)) := hS1.one_of rfl
  have HB1 : Hid (Below w.heap.size w w1) := hb1
  clear hS1 hb1
  go_wp2_with fail
  refine (make_one g0 1 0 0 5 _ (HS1.out.alloc _) (by omega) (by omega) (by omega) (by omega)).mono ?_
  rintro e w2 ⟨g1, rfl, hb2, hg1, hS2⟩
  have hs2 := hb2.size
  simp only [World.size_alloc] at hs2 hb2 hg1
  have hl2 := hS2.lt
  have hp2 : w2.cell? ⟨w1.heap.size, 0, none⟩ = some (.slice (some ⟨g0, 0, none⟩) 1 1) := (hb2.cell (by simp)).trans (by go_simp)
  have hf2 : w2.frozen? ⟨w1.heap.size, 0, none⟩ = false := (hb2.frozen (by simp)).trans (by go_simp)
  have HB2 : Hid (Below w.heap.size w w2) := (HB1.out.alloc hs1 _).trans (hb2.mono (by omega))
  have HS2 : Hid (Sto w2 g1 1 (one true 1 5)) := hS2
  have hlt2 : w1.heap.size < w2.heap.size := by omega
  clear hS2 hb2 HS1
  go_wp2_with fail
  refine (free_one g1 1 1 5 _ ((HS2.out.setOther (by simp; omega) _).alloc _) (by omega)).mono ?_
  rintro e w3 ⟨g2, rfl, hb3, hg2, hS3⟩
  have hs3 := hb3.size
  simp only [World.size_alloc, World.size_setCell] at hs3 hb3 hg2
  have hl3 := hS3.lt
  have hp3 : w3.cell? ⟨w1.heap.size, 0, none⟩ = some (.slice (some ⟨g1, 0, none⟩) 1 1) := (hb3.cell (by simp; omega)).trans (by go_simp)
  have hf3 : w3.frozen? ⟨w1.heap.size, 0, none⟩ = false := (hb3.frozen (by simp; omega)).trans (by go_simp)
  have ha3 : w3.cell? ⟨w2.heap.size, 0, none⟩ = some (.int .i64 0) := (hb3.cell (by simp)).trans (by go_simp)
  have hc3 : w3.cell? ⟨w2.heap.size, 1, none⟩ = some (.int .i64 1) := (hb3.cell (by simp)).trans (by go_simp)
  have HB3 : Hid (Below w.heap.size w w3) := ((HB2.out.setCell (by simp; omega) _).alloc (by simp; omega) _).trans (hb3.mono (by omega))
  have HS3 : Hid (Sto w3 g2 1 (one false 1 0)) := hS3
  have hlt3 : w1.heap.size < w3.heap.size := by omega
  have hlu3 : w2.heap.size < w3.heap.size := by omega
  clear hS3 hb3 HS2 hp2 hf2 HB2 HB1
  go_wp2_with fail
  refine (make_one g2 1 1 0 6 _ (HS3.out.setOther (by simp; omega) _) (by omega) (by omega) (by omega) (by omega)).mono ?_
  rintro e w4 ⟨g3, rfl, hb4, hg3, hS4⟩
  have hs4 := hb4.size
  simp only [World.size_setCell] at hs4 hb4 hg3
  have hl4 := hS4.lt
  have hne : w1.heap.size ≠ w2.heap.size := by omega
  have hp4 : w4.cell? ⟨w1.heap.size, 0, none⟩ = some (.slice (some ⟨g2, 0, none⟩) 1 1) := (hb4.cell (by simp; omega)).trans (by go_simp)
  have hf4 : w4.frozen? ⟨w1.heap.size, 0, none⟩ = false := (hb4.frozen (by simp; omega)).trans (by go_simp)
  have ha4 : w4.cell? ⟨w2.heap.size, 0, none⟩ = some (.int .i64 0) := (hb4.cell (by simp; omega)).trans (by go_simp)
  have hc4 : w4.cell? ⟨w2.heap.size, 1, none⟩ = some (.int .i64 1) := (hb4.cell (by simp; omega)).trans (by go_simp)
  have HB4 : Hid (Below w.heap.size w w4) := (HB3.out.setCell (by simp; omega) _).trans (hb4.mono (by omega))
  have HS4 : Hid (Sto w4 g3 1 (one true 2 6)) := hS4
  have hlt4 : w1.heap.size < w4.heap.size := by omega
  have hlu4 : w2.heap.size < w4.heap.size := by omega
  clear hS4 hb4 HS3 hp3 hf3 ha3 hc3 HB3
  go_wp2_with fail
  refine (find_one g3 1 2 6 _ ((HS4.out.setOther (by simp; omega) _).alloc _) (by omega)).mono ?_
  rintro e w5 ⟨ka, kc, rfl, hb5⟩
  have hs5 := hb5.size
  simp only [World.size_alloc, World.size_setCell] at hs5 hb5
  have hp5 : w5.cell? ⟨w1.heap.size, 0, none⟩ = some (.slice (some ⟨g3, 0, none⟩) 1 1) := (hb5.cell (by simp; omega)).trans (by go_simp)
  have ha5 : w5.cell? ⟨w2.heap.size, 0, none⟩ = some (.int .i64 0) := (hb5.cell (by simp; omega)).trans (by go_simp)
  have hc5 : w5.cell? ⟨w2.heap.size, 1, none⟩ = some (.int .i64 1) := (hb5.cell (by simp; omega)).trans (by go_simp)
  have hd5 : w5.cell? ⟨w4.heap.size, 0, none⟩ = some (.int .i64 0) := (hb5.cell (by simp)).trans (by go_simp)
  have he5 : w5.cell? ⟨w4.heap.size, 1, none⟩ = some (.int .i64 2) := (hb5.cell (by simp)).trans (by go_simp)
  have HB5 : Hid (Below w.heap.size w w5) := ((HB4.out.setCell (by simp; omega) _).alloc (by simp; omega) _).trans (hb5.mono (by omega))
  have HS5 : Hid (Sto w5 g3 1 (one true 2 6)) := ((HS4.out.setOther (by simp; omega) _).alloc _).below hb5 (by omega)
  have hlt5 : w1.heap.size < w5.heap.size := by omega
  have hlu5 : w2.heap.size < w5.heap.size := by omega
  have hlv5 : w4.heap.size < w5.heap.size := by omega
  clear hb5 HS4 hp4 hf4 ha4 hc4 HB4
  go_wp2_with fail
  refine (gone_one g3 1 2 6 1 _ (HS5.out.alloc _) (by omega) (by omega)).mono ?_
  rintro e w6 ⟨rfl, hb6⟩
  simp only [World.size_alloc] at hb6
  go_wp2
  go_ret
  exact ⟨rfl, (HB5.out.alloc (by omega) _).trans (hb6.mono (by omega))⟩
end Go.Proofs.Ytiekhgpnmcffiaa.Room
