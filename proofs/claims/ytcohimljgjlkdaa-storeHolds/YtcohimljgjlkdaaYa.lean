/-
  StoreHolds: the walk where nothing is made at first.
-/
import Derived.Test.YtcohimljgjlkdaaXf
import Derived.Test.YtcohimljgjlkdaaXh
namespace Go.Proofs.Ytcohimljgjlkdaa
open Go.RowKit

set_option maxHeartbeats 1600000 in
theorem holds_bad (a : Option Addr) (c : Nat) (S : List Nd) (tag : Int) (v : Value) (w : World) (hN : S.length ≤ 9223372036854775807) (hB : Big S) (hS : NdsAt w a S) (hE : makeE S tag ≠ 0) :
    Calls Try.prog 5 #[.agg #[.slice a S.length c], .int .i64 tag, v] w fun e w' => e = .returned (.bool true) ∧ Below w.heap.size w w' := by
  obtain ⟨E, hE2⟩ : ∃ E, makeE S tag = E := ⟨_, rfl⟩
  rw [hE2] at hE
  have D1 : Hid (∀ W, NdsAt W a S → Calls _ _ _ _ _) := fun W hW => make_err a c S tag E W hN hB hW hE2 hE
  have HS : Hid (NdsAt w a S) := hS
  have hz : (E == 0) = false := by simp [hE]
  clear hS hB hE2
  generalize S.length = n at *
  go_enter Try.func5, Try.ntmps5
  go_wp2_with fail
  refine (D1.out _ (HS.out.below ((Below.refl _ _).alloc (Nat.le_refl _) _))).mono ?_
  rintro e w1 ⟨rfl, hb1⟩
  simp only [World.size_alloc] at hb1
  have hs1 := hb1.size
  simp only [World.size_alloc] at hs1
  have hB1 : Below w.heap.size w w1 := ((Below.refl _ _).alloc (Nat.le_refl _) _).trans (hb1.mono (by omega))
  have c1 : w1.cell? ⟨w.heap.size, 0, none⟩ = some (.slice a n c) := (hb1.cell (by simp)).trans (by go_simp)
  have f1 : w1.frozen? ⟨w.heap.size, 0, none⟩ = false := (hb1.frozen (by simp)).trans (by go_simp)
  have l1 : w.heap.size < w1.heap.size := by omega
  clear hb1
  go_wp2_with fail
  refine (Room.stored_any _).mono ?_
  rintro e w2 ⟨rfl, hb2⟩
  go_wp2_with fail
  refine (Room.stored_any _).mono ?_
  rintro e w3 ⟨rfl, hb3⟩
  go_wp2
  go_ret
  refine ⟨rfl, ?_⟩
  have h2 := hb2.size
  simp only [World.size_alloc, World.size_setCell] at hb2 h2
  refine (Below.trans ?_ (hb2.mono (by omega))).trans (hb3.mono (by omega))
  first
    | exact (hB1.setCell (by simp) _).alloc (by simp; omega) _
    | exact (hB1.alloc (by omega) _).setCell (by simp) _
end Go.Proofs.Ytcohimljgjlkdaa
