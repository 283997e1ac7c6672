/-
  The contracts of Attach where no root is made.
-/
import Derived.Test.YtjlapfgghljidabUZgZbZc
namespace Go.Proofs.Ytjlapfgghljidab
open Go.RowKit

set_option maxRecDepth 100000 in
set_option maxHeartbeats 2000000 in
theorem attach_err1 (a : Option Addr) (c : Nat) (S : List Nd) (p u E : Int) (cl : Bool) (w : World) (hN : S.length ≤ 9223372036854775807) (hB : Big S) (hS : NdsAt w a S) (hE : findE S p u = E) (hE0 : E ≠ 0) :
    Calls Try.prog 25 #[.agg #[.slice a S.length c], .agg #[.int .i64 p, .int .i64 u], .bool cl] w fun e w' => e = .returned (.tuple #[.agg #[.slice none 0 0], .agg #[.int .i64 0, .int .i64 0], .int .i64 E]) ∧ Below w.heap.size w w' := by
  have D0 : Hid (∀ W, NdsAt W a S → Calls _ _ _ _ _) := fun W hW => find_err a c S p u E W hN hB hW hE hE0
  have HS : Hid (NdsAt w a S) := hS
  have hz0 : (E == 0) = false := by simp [hE0]
  clear hS hE hB hN
  generalize S.length = n at *
  have BW : Hid (∀ W, Below (w.heap.size + 1 + 1 + 1 + 1) ((((w.alloc (.cells #[.slice a n c] 24)).alloc (.cells #[.int .i64 p, .int .i64 u] 26)).alloc (.cells #[.slice none 0 0] 24)).alloc (.cells #[.int .i64 0, .int .i64 0] 26)) W → Below w.heap.size w W) := fun W h => (four_below _ _ _ _ _).trans (h.mono (by omega))
  go_enter Try.func25, Try.ntmps25
  go_wp2_with fail
  refine Calls.mono (D0.out _ (HS.out.below (four_below _ _ _ _ _))) ?_
  rintro e w2 ⟨rfl, hb2⟩
  simp only [World.size_alloc] at hb2
  have HB2 : Hid (Below (w.heap.size + 1 + 1 + 1 + 1) ((((w.alloc (.cells #[.slice a n c] 24)).alloc (.cells #[.int .i64 p, .int .i64 u] 26)).alloc (.cells #[.slice none 0 0] 24)).alloc (.cells #[.int .i64 0, .int .i64 0] 26)) w2) := hb2
  have hs2 := hb2.size
  simp only [World.size_alloc] at hs2
  obtain ⟨l0, l1, l2, l3, l4, l5, l6, l7⟩ := att_low hb2
  have q0 : w.heap.size < w2.heap.size := by omega
  have q1 : w.heap.size + 1 < w2.heap.size := by omega
  have q2 : w.heap.size + 1 + 1 < w2.heap.size := by omega
  have q3 : w.heap.size + 1 + 1 + 1 < w2.heap.size := by omega
  clear hb2
  have HBX : Hid _ := HB2
  go_wp2
  refine bodyPost_ret (v := .tuple #[.agg #[.slice none 0 0], .agg #[.int .i64 0, .int .i64 0], .int .i64 E]) (by simp only [results, Try.results25]; go_simp) rfl ⟨rfl, ?_⟩
  have hbo := BW.out _ HBX.out
  have hbs := HBX.out.size
  simp only [World.size_alloc] at hbs
  first
    | exact ((hbo.setCell (by simp; omega) _).setCell (by simp; omega) _).setCell (by simp; omega) _
    | exact (((hbo.setCell (by simp; omega) _).setCell (by simp; omega) _).setCell (by simp; omega) _).drew
    | exact (((hbo.alloc (by omega) _).setCell (by simp; omega) _).setCell (by simp; omega) _).setCell (by simp; omega) _
    | exact (((hbo.setCell (by simp; omega) _).setCell (by simp; omega) _).setCell (by simp; omega) _).alloc (by simp; omega) _
    | exact ((((hbo.alloc (by omega) _).alloc (by simp; omega) _).setCell (by simp; omega) _).setCell (by simp; omega) _).setCell (by simp; omega) _
    | exact ((((hbo.setCell (by simp; omega) _).setCell (by simp; omega) _).setCell (by simp; omega) _).alloc (by simp; omega) _).alloc (by simp; omega) _

set_option maxRecDepth 100000 in
set_option maxHeartbeats 2000000 in
theorem attach_err2 (a : Option Addr) (c : Nat) (S : List Nd) (k : Nat) (u : Int) (cl : Bool) (w : World) (wf : WF S) (hS : NdsAt w a S) (hk : k < S.length) (hE : findE S k u = 0) (hH : hostB S k = true) :
    Calls Try.prog 25 #[.agg #[.slice a S.length c], .agg #[.int .i64 (k : Int), .int .i64 u], .bool cl] w fun e w' => e = .returned (.tuple #[.agg #[.slice none 0 0], .agg #[.int .i64 0, .int .i64 0], .int .i64 6]) ∧ Below w.heap.size w w' := by
  have hN := wf.small
  have D0 : Hid (∀ W, NdsAt W a S → Calls _ _ _ _ _) := fun W hW => find_ok a c S k u W (by omega) wf.big hW hk hE (by have := wf.kids_small hk; omega)
  have d1 := fun W hW => isHost_any a c S (k : Int) W (by omega) hW (by omega)
  rw [hH] at d1
  have D1 : Hid _ := d1
  have HS : Hid (NdsAt w a S) := hS
  clear hS wf hE hH d1
  obtain ⟨x0, hx0⟩ : ∃ x, nd S k = x := ⟨_, rfl⟩
  rw [hx0] at D0
  clear hx0
  generalize S.length = n at *
  have BW : Hid (∀ W, Below (w.heap.size + 1 + 1 + 1 + 1) ((((w.alloc (.cells #[.slice a n c] 24)).alloc (.cells #[.int .i64 (k : Int), .int .i64 u] 26)).alloc (.cells #[.slice none 0 0] 24)).alloc (.cells #[.int .i64 0, .int .i64 0] 26)) W → Below w.heap.size w W) := fun W h => (four_below _ _ _ _ _).trans (h.mono (by omega))
  go_enter Try.func25, Try.ntmps25
  go_wp2_with fail
  refine Calls.mono (D0.out _ (HS.out.below (four_below _ _ _ _ _))) ?_
  rintro e w2 ⟨fg, rfl, hb2, _⟩
  simp only [World.size_alloc] at hb2
  have HB2 : Hid (Below (w.heap.size + 1 + 1 + 1 + 1) ((((w.alloc (.cells #[.slice a n c] 24)).alloc (.cells #[.int .i64 (k : Int), .int .i64 u] 26)).alloc (.cells #[.slice none 0 0] 24)).alloc (.cells #[.int .i64 0, .int .i64 0] 26)) w2) := hb2
  have hs2 := hb2.size
  simp only [World.size_alloc] at hs2
  obtain ⟨l0, l1, l2, l3, l4, l5, l6, l7⟩ := att_low hb2
  have q0 : w.heap.size < w2.heap.size := by omega
  have q1 : w.heap.size + 1 < w2.heap.size := by omega
  have q2 : w.heap.size + 1 + 1 < w2.heap.size := by omega
  have q3 : w.heap.size + 1 + 1 + 1 < w2.heap.size := by omega
  clear hb2
  go_wp2_with fail
  refine Calls.mono (D1.out _ (HS.out.below (BW.out _ (HB2.out.alloc (by omega) _)))) ?_
  rintro e w3 ⟨rfl, hb3⟩
  simp only [World.size_alloc] at hb3
  have HB3 : Hid (Below (w.heap.size + 1 + 1 + 1 + 1) ((((w.alloc (.cells #[.slice a n c] 24)).alloc (.cells #[.int .i64 (k : Int), .int .i64 u] 26)).alloc (.cells #[.slice none 0 0] 24)).alloc (.cells #[.int .i64 0, .int .i64 0] 26)) w3) := (HB2.out.alloc (by omega) _).trans (hb3.mono (by omega))
  have hs3 := hb3.size
  simp only [World.size_alloc] at hs3
  clear hb3 l0 l1 l2 l3 l4 l5 l6 l7 q0 q1 q2 q3
  obtain ⟨l0, l1, l2, l3, l4, l5, l6, l7⟩ := att_low HB3.out
  have q0 : w.heap.size < w3.heap.size := by omega
  have q1 : w.heap.size + 1 < w3.heap.size := by omega
  have q2 : w.heap.size + 1 + 1 < w3.heap.size := by omega
  have q3 : w.heap.size + 1 + 1 + 1 < w3.heap.size := by omega
  have HBX : Hid _ := HB3
  go_wp2
  refine bodyPost_ret (v := .tuple #[.agg #[.slice none 0 0], .agg #[.int .i64 0, .int .i64 0], .int .i64 6]) (by simp only [results, Try.results25]; go_simp) rfl ⟨rfl, ?_⟩
  have hbo := BW.out _ HBX.out
  have hbs := HBX.out.size
  simp only [World.size_alloc] at hbs
  first
    | exact ((hbo.setCell (by simp; omega) _).setCell (by simp; omega) _).setCell (by simp; omega) _
    | exact (((hbo.setCell (by simp; omega) _).setCell (by simp; omega) _).setCell (by simp; omega) _).drew
    | exact (((hbo.alloc (by omega) _).setCell (by simp; omega) _).setCell (by simp; omega) _).setCell (by simp; omega) _
    | exact (((hbo.setCell (by simp; omega) _).setCell (by simp; omega) _).setCell (by simp; omega) _).alloc (by simp; omega) _
    | exact ((((hbo.alloc (by omega) _).alloc (by simp; omega) _).setCell (by simp; omega) _).setCell (by simp; omega) _).setCell (by simp; omega) _
    | exact ((((hbo.setCell (by simp; omega) _).setCell (by simp; omega) _).setCell (by simp; omega) _).alloc (by simp; omega) _).alloc (by simp; omega) _

set_option maxRecDepth 100000 in
set_option maxHeartbeats 2000000 in
theorem attach_err3 (a : Option Addr) (c : Nat) (S : List Nd) (k : Nat) (u E : Int) (cl : Bool) (w : World) (wf : WF S) (hS : NdsAt w a S) (hk : k < S.length) (hE : findE S k u = 0) (hH : hostB S k = false) (hM : makeE S 0 = E) (hM0 : E ≠ 0) :
    Calls Try.prog 25 #[.agg #[.slice a S.length c], .agg #[.int .i64 (k : Int), .int .i64 u], .bool cl] w fun e w' => e = .returned (.tuple #[.agg #[.slice none 0 0], .agg #[.int .i64 0, .int .i64 0], .int .i64 E]) ∧ Below w.heap.size w w' := by
  have hN := wf.small
  have D0 : Hid (∀ W, NdsAt W a S → Calls _ _ _ _ _) := fun W hW => find_ok a c S k u W (by omega) wf.big hW hk hE (by have := wf.kids_small hk; omega)
  have d1 := fun W hW => isHost_any a c S (k : Int) W (by omega) hW (by omega)
  rw [hH] at d1
  have D1 : Hid _ := d1
  have D2 : Hid (∀ W, NdsAt W a S → Calls _ _ _ _ _) := fun W hW => make_err a c S 0 E W (by omega) wf.big hW hM hM0
  have HS : Hid (NdsAt w a S) := hS
  have hz0 : (E == 0) = false := by simp [hM0]
  clear hS wf hE hH d1 hM
  obtain ⟨x0, hx0⟩ : ∃ x, nd S k = x := ⟨_, rfl⟩
  rw [hx0] at D0
  clear hx0
  generalize S.length = n at *
  have BW : Hid (∀ W, Below (w.heap.size + 1 + 1 + 1 + 1) ((((w.alloc (.cells #[.slice a n c] 24)).alloc (.cells #[.int .i64 (k : Int), .int .i64 u] 26)).alloc (.cells #[.slice none 0 0] 24)).alloc (.cells #[.int .i64 0, .int .i64 0] 26)) W → Below w.heap.size w W) := fun W h => (four_below _ _ _ _ _).trans (h.mono (by omega))
  go_enter Try.func25, Try.ntmps25
  go_wp2_with fail
  refine Calls.mono (D0.out _ (HS.out.below (four_below _ _ _ _ _))) ?_
  rintro e w2 ⟨fg, rfl, hb2, _⟩
  simp only [World.size_alloc] at hb2
  have HB2 : Hid (Below (w.heap.size + 1 + 1 + 1 + 1) ((((w.alloc (.cells #[.slice a n c] 24)).alloc (.cells #[.int .i64 (k : Int), .int .i64 u] 26)).alloc (.cells #[.slice none 0 0] 24)).alloc (.cells #[.int .i64 0, .int .i64 0] 26)) w2) := hb2
  have hs2 := hb2.size
  simp only [World.size_alloc] at hs2
  obtain ⟨l0, l1, l2, l3, l4, l5, l6, l7⟩ := att_low hb2
  have q0 : w.heap.size < w2.heap.size := by omega
  have q1 : w.heap.size + 1 < w2.heap.size := by omega
  have q2 : w.heap.size + 1 + 1 < w2.heap.size := by omega
  have q3 : w.heap.size + 1 + 1 + 1 < w2.heap.size := by omega
  clear hb2
  go_wp2_with fail
  refine Calls.mono (D1.out _ (HS.out.below (BW.out _ (HB2.out.alloc (by omega) _)))) ?_
  rintro e w3 ⟨rfl, hb3⟩
  simp only [World.size_alloc] at hb3
  have HB3 : Hid (Below (w.heap.size + 1 + 1 + 1 + 1) ((((w.alloc (.cells #[.slice a n c] 24)).alloc (.cells #[.int .i64 (k : Int), .int .i64 u] 26)).alloc (.cells #[.slice none 0 0] 24)).alloc (.cells #[.int .i64 0, .int .i64 0] 26)) w3) := (HB2.out.alloc (by omega) _).trans (hb3.mono (by omega))
  have hs3 := hb3.size
  simp only [World.size_alloc] at hs3
  clear hb3 l0 l1 l2 l3 l4 l5 l6 l7 q0 q1 q2 q3
  obtain ⟨l0, l1, l2, l3, l4, l5, l6, l7⟩ := att_low HB3.out
  have q0 : w.heap.size < w3.heap.size := by omega
  have q1 : w.heap.size + 1 < w3.heap.size := by omega
  have q2 : w.heap.size + 1 + 1 < w3.heap.size := by omega
  have q3 : w.heap.size + 1 + 1 + 1 < w3.heap.size := by omega
  go_wp2_with fail
  refine Calls.mono (D2.out _ (HS.out.below (BW.out _ HB3.out))) ?_
  rintro e w4 ⟨rfl, hb4⟩
  have HB4 : Hid (Below (w.heap.size + 1 + 1 + 1 + 1) ((((w.alloc (.cells #[.slice a n c] 24)).alloc (.cells #[.int .i64 (k : Int), .int .i64 u] 26)).alloc (.cells #[.slice none 0 0] 24)).alloc (.cells #[.int .i64 0, .int .i64 0] 26)) w4) := HB3.out.trans (hb4.mono (by omega))
  have hs4 := hb4.size
  clear hb4 l0 l1 l2 l3 l4 l5 l6 l7 q0 q1 q2 q3
  obtain ⟨l0, l1, l2, l3, l4, l5, l6, l7⟩ := att_low HB4.out
  have q0 : w.heap.size < w4.heap.size := by omega
  have q1 : w.heap.size + 1 < w4.heap.size := by omega
  have q2 : w.heap.size + 1 + 1 < w4.heap.size := by omega
  have q3 : w.heap.size + 1 + 1 + 1 < w4.heap.size := by omega
  have HBX : Hid _ := HB4
  go_wp2
  refine bodyPost_ret (v := .tuple #[.agg #[.slice none 0 0], .agg #[.int .i64 0, .int .i64 0], .int .i64 E]) (by simp only [results, Try.results25]; go_simp) rfl ⟨rfl, ?_⟩
  have hbo := BW.out _ HBX.out
  have hbs := HBX.out.size
  simp only [World.size_alloc] at hbs
  first
    | exact ((hbo.setCell (by simp; omega) _).setCell (by simp; omega) _).setCell (by simp; omega) _
    | exact (((hbo.setCell (by simp; omega) _).setCell (by simp; omega) _).setCell (by simp; omega) _).drew
    | exact (((hbo.alloc (by omega) _).setCell (by simp; omega) _).setCell (by simp; omega) _).setCell (by simp; omega) _
    | exact (((hbo.setCell (by simp; omega) _).setCell (by simp; omega) _).setCell (by simp; omega) _).alloc (by simp; omega) _
    | exact ((((hbo.alloc (by omega) _).alloc (by simp; omega) _).setCell (by simp; omega) _).setCell (by simp; omega) _).setCell (by simp; omega) _
    | exact ((((hbo.setCell (by simp; omega) _).setCell (by simp; omega) _).setCell (by simp; omega) _).alloc (by simp; omega) _).alloc (by simp; omega) _
end Go.Proofs.Ytjlapfgghljidab
