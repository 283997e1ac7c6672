/-
  The closed fact placed: a child in a slot.
-/
import Derived.Test.YtlgnapdhnlhkpaaULjTp
import Derived.Test.YtlgnapdhnlhkpaaULcZg
import Derived.Test.YtlgnapdhnlhkpaaUWc
import Derived.Test.YtlgnapdhnlhkpaaUTn
namespace Go.Proofs.Ytlgnapdhnlhkpaa
open Go.RowKit

theorem p5_wf : WF S5 := (wf_iff _).1 (by decide)
def P6 : List Nd := S5.set 3 (rootNd (nd S5 3) 0 false)
def P7 : List Nd := P6.set 4 (madeNd (nd P6 4) 90)
def P8 : List Nd := enterS (leaveG P7 4) 3 4 0
theorem p6_wf : WF P6 := (wf_iff _).1 (by decide)
theorem p7_wf : WF P7 := (wf_iff _).1 (by decide)
theorem p8_wf : WF P8 := (wf_iff _).1 (by decide)
theorem p7_check : tcheckE P7 [(((3 : Nat) : Int), 1), (((4 : Nat) : Int), 1)] = 0 := by decide
theorem p5_0 : findE S5 ((0 : Nat) : Int) 1 = 0 := by decide
theorem p8_0 : findE P8 ((0 : Nat) : Int) 1 = 0 := by decide
theorem p8_1 : findE P8 ((1 : Nat) : Int) 1 = 0 := by decide
theorem p8_s : slotsF P8 0 = [⟨4, 0, [2, 1]⟩] := by rfl
theorem p8_t : toF P8 1 = 4 := by rfl
theorem p8_f : flatF P8 0 = [0, 4, 2, 1] := by decide +kernel

/-- The variables of placed: the store, the hands, the root's hand, the slot's. -/
def VP (X : World) (bs bh g : Nat) : Prop :=
  X.cell? ⟨bs, 0, none⟩ = some (.slice (some ⟨g, 0, none⟩) 6 6) ∧ (∀ o, X.frozen? ⟨bs, o, none⟩ = false) ∧ X.cell? ⟨bh, 0, none⟩ = some (.int .i64 0) ∧ X.cell? ⟨bh, 1, none⟩ = some (.int .i64 1) ∧ X.cell? ⟨bh, 2, none⟩ = some (.int .i64 1) ∧ X.cell? ⟨bh, 3, none⟩ = some (.int .i64 1)
def VH (X : World) (b : Nat) (k : Int) : Prop := X.cell? ⟨b, 0, none⟩ = some (.int .i64 k) ∧ X.cell? ⟨b, 1, none⟩ = some (.int .i64 1)

theorem VP.below {X Y : World} {bs bh g : Nat} (h : VP X bs bh g) (hb : Below X.heap.size X Y) : VP Y bs bh g :=
  ⟨keepC h.1 hb, fun o => (hb.frozen (p := ⟨bs, o, none⟩) (by have := World.block_lt_of_cell? _ _ h.1; exact this)).trans (h.2.1 o), keepC h.2.2.1 hb, keepC h.2.2.2.1 hb, keepC h.2.2.2.2.1 hb, keepC h.2.2.2.2.2 hb⟩
theorem VH.below {X Y : World} {b : Nat} {k : Int} (h : VH X b k) (hb : Below X.heap.size X Y) : VH Y b k := ⟨keepC h.1 hb, keepC h.2 hb⟩
theorem cell_set {X : World} {b b' o o' : Nat} {v v' : Value} (h : X.cell? ⟨b, o, none⟩ = some v) (hne : b ≠ b') : (X.setCell ⟨b', o', none⟩ v').cell? ⟨b, o, none⟩ = some v := (World.cell?_of_block (Below.heap_setCell _ _ _ _ hne)).trans h
theorem VH.set {X : World} {b b' o : Nat} {k : Int} {v : Value} (h : VH X b k) (hne : b ≠ b') : VH (X.setCell ⟨b', o, none⟩ v) b k := ⟨cell_set h.1 hne, cell_set h.2 hne⟩
theorem VP.set {X : World} {bs bh g g' : Nat} (h : VP X bs bh g) (hne : bh ≠ bs) : VP (X.setCell ⟨bs, 0, none⟩ (.slice (some ⟨g', 0, none⟩) 6 6)) bs bh g' :=
  ⟨World.cell?_setCell_same _ _ _ h.1, fun o => by rw [World.frozen?_setCell]; exact h.2.1 o, cell_set h.2.2.1 hne, cell_set h.2.2.2.1 hne, cell_set h.2.2.2.2.1 hne, cell_set h.2.2.2.2.2 hne⟩
theorem VH.new (X : World) (k : Int) : VH (X.alloc (.cells #[.int .i64 k, .int .i64 1] 26)) X.heap.size k := ⟨alloc_cell X _ _ 0 rfl, alloc_cell X _ _ 1 rfl⟩

def PlacedOk : Prop := ∀ w : World, Calls Try.prog 10 #[] w fun e w' => e = .returned (.bool true) ∧ Below w.heap.size w w'

set_option maxRecDepth 100000 in
set_option maxHeartbeats 4000000 in
theorem placed_ok : PlacedOk := by
  intro w
  have FA : Hid (∀ W, Calls _ _ _ _ _) := fun W => family_any W
  have DA : Hid (∀ g W, NdsAt W (some ⟨g, 0, none⟩) S5 → Calls Try.prog 31 #[.agg #[.slice (some ⟨g, 0, none⟩) 6 6], .agg #[.int .i64 0, .int .i64 1], .bool false] W fun e w' => ∃ g, e = .returned (.tuple #[.agg #[.slice (some ⟨g, 0, none⟩) 6 6], .agg #[.int .i64 3, .int .i64 1], .int .i64 0]) ∧ Below W.heap.size W w' ∧ W.heap.size ≤ g ∧ OwnR w' g P6) := fun g W hW =>
    attach_ok (some ⟨g, 0, none⟩) 6 S5 0 3 1 false W p5_wf hW (by decide) p5_0 (by decide) (by decide) (by decide) (by decide)
  have DM : Hid (∀ g W, NdsAt W (some ⟨g, 0, none⟩) P6 → Calls Try.prog 32 #[.agg #[.slice (some ⟨g, 0, none⟩) 6 6], .int .i64 90] W fun e w' => ∃ g, e = .returned (.tuple #[.agg #[.slice (some ⟨g, 0, none⟩) 6 6], .agg #[.int .i64 4, .int .i64 1], .int .i64 0]) ∧ Below W.heap.size W w' ∧ W.heap.size ≤ g ∧ OwnR w' g P7) := fun g W hW =>
    make_own (some ⟨g, 0, none⟩) 6 P6 90 W (by decide) (by decide) hW ((wf_iff _).2 p6_wf) (by decide) (by decide) 4 (by decide) (by decide) (by decide) (by decide)
  have DI : Hid (∀ g W, NdsAt W (some ⟨g, 0, none⟩) P7 → Calls Try.prog 33 #[.agg #[.slice (some ⟨g, 0, none⟩) 6 6], .agg #[.int .i64 3, .int .i64 1], .agg #[.int .i64 4, .int .i64 1], .slice none 0 0] W fun e w' => ∃ g, e = .returned (.tuple #[.agg #[.slice (some ⟨g, 0, none⟩) 6 6], .int .i64 0]) ∧ Below W.heap.size W w' ∧ W.heap.size ≤ g ∧ ∀ w3 : World, (∀ b, g ≤ b → w3.heap[b]? = w'.heap[b]?) → NdsAt w3 (some ⟨g, 0, none⟩) P8) := fun g W hW =>
    insert0_ok (some ⟨g, 0, none⟩) 6 P7 3 4 1 1 none 0 0 W (by decide) p7_wf.big hW p7_check (by decide) (by decide) (by decide) (by decide) (Or.inl (by decide)) (by decide) (by decide) (by decide)
  have DS : Hid (∀ g W, NdsAt W (some ⟨g, 0, none⟩) P8 → Calls Try.prog 6 #[.agg #[.slice (some ⟨g, 0, none⟩) 6 6], .agg #[.int .i64 0, .int .i64 1]] W fun e w' => ∃ qa qc, e = .returned (.tuple #[.slice qa 1 qc, .int .i64 0]) ∧ Below W.heap.size W w' ∧ SltsAt w' qa [⟨4, 0, [2, 1]⟩]) := fun g W hW => by
    have h := slots_ok (some ⟨g, 0, none⟩) 6 P8 0 1 W p8_wf hW (by decide) p8_0
    rw [p8_s] at h
    refine Calls.mono h ?_
    rintro e w' ⟨v, K, rfl, hb, hO⟩
    obtain ⟨qa, qc, hv, hs⟩ := OwnS.slts hO
    exact ⟨qa, qc, by rw [hv]; rfl, hb, hs⟩
  have DG : Hid (∀ g W, NdsAt W (some ⟨g, 0, none⟩) P8 → Calls Try.prog 7 #[.agg #[.slice (some ⟨g, 0, none⟩) 6 6], .agg #[.int .i64 1, .int .i64 1]] W fun e w' => e = .returned (.tuple #[.int .i64 4, .int .i64 0]) ∧ Below W.heap.size W w') := fun g W hW => by
    have h := given_ok (some ⟨g, 0, none⟩) 6 P8 1 1 W p8_wf hW (by decide) p8_1
    rw [p8_t] at h
    exact h
  have DF : Hid (∀ g W, NdsAt W (some ⟨g, 0, none⟩) P8 → Calls Try.prog 8 #[.agg #[.slice (some ⟨g, 0, none⟩) 6 6], .agg #[.int .i64 0, .int .i64 1]] W fun e w' => ∃ sa cap, e = .returned (.tuple #[.slice sa 4 cap, .int .i64 0]) ∧ Below W.heap.size W w' ∧ IntsAt w' sa [0, 4, 2, 1]) := fun g W hW => by
    have h := flat_ok (some ⟨g, 0, none⟩) 6 P8 0 1 W p8_wf hW (by decide) p8_0
    rw [p8_f] at h
    exact h
  have E2 : Hid (∀ (ra : Option Addr) (rc vb : Nat) (W : World), IntsAt W ra [2, 1] → W.cell? ⟨vb, 0, none⟩ = some (.int .i64 2) → W.cell? ⟨vb, 1, none⟩ = some (.int .i64 1) → Calls Try.prog 11 #[.slice ra 2 rc, .slice (some ⟨vb, 0, none⟩) 2 2] W fun e w' => e = .returned (.bool true) ∧ Below W.heap.size W w') := fun ra rc vb W h1 c0 c1 => by
    have h := equal_any ra (some ⟨vb, 0, none⟩) rc 2 [2, 1] [2, 1] W (by decide) h1 (fun i hi => by
      have hi' : i < 2 := by simpa using hi
      match i, hi' with
      | 0, _ => exact ⟨vb, 0, rfl, by simpa using c0⟩
      | 1, _ => exact ⟨vb, 0, rfl, by simpa using c1⟩)
    rw [decide_eq_true rfl] at h
    exact h
  have E4 : Hid (∀ (ra : Option Addr) (rc vb : Nat) (W : World), IntsAt W ra [0, 4, 2, 1] → W.cell? ⟨vb, 0, none⟩ = some (.int .i64 0) → W.cell? ⟨vb, 1, none⟩ = some (.int .i64 4) → W.cell? ⟨vb, 2, none⟩ = some (.int .i64 2) → W.cell? ⟨vb, 3, none⟩ = some (.int .i64 1) → Calls Try.prog 11 #[.slice ra 4 rc, .slice (some ⟨vb, 0, none⟩) 4 4] W fun e w' => e = .returned (.bool true) ∧ Below W.heap.size W w') := fun ra rc vb W h1 c0 c1 c2 c3 => by
    have h := equal_any ra (some ⟨vb, 0, none⟩) rc 4 [0, 4, 2, 1] [0, 4, 2, 1] W (by decide) h1 (fun i hi => by
      have hi' : i < 4 := by simpa using hi
      match i, hi' with
      | 0, _ => exact ⟨vb, 0, rfl, by simpa using c0⟩
      | 1, _ => exact ⟨vb, 0, rfl, by simpa using c1⟩
      | 2, _ => exact ⟨vb, 0, rfl, by simpa using c2⟩
      | 3, _ => exact ⟨vb, 0, rfl, by simpa using c3⟩)
    rw [decide_eq_true rfl] at h
    exact h
  go_enter Try.func10, Try.ntmps10
  go_wp2_with fail
  refine (FA.out _).mono ?_
  rintro e w1 ⟨g, rfl, hb1, hS1⟩
  have HS1 : Hid (NdsAt w1 (some ⟨g, 0, none⟩) S5) := hS1
  have HB1 : Hid (Below w.heap.size w w1) := hb1
  clear hS1 hb1
  go_wp2_with fail
  refine Calls.mono (DA.out g _ (HS1.out.below (two_belowS _ _ _))) ?_
  rintro e w2 ⟨g2, rfl, hb2, hg2, hO2⟩
  have V2 : Hid (VP w2 w1.heap.size (w1.heap.size + 1) g) := VP.below (show VP ((w1.alloc (.cells #[.slice (some ⟨g, 0, none⟩) 6 6] 24)).alloc (.cells #[.int .i64 0, .int .i64 1, .int .i64 1, .int .i64 1, .int .i64 2, .int .i64 1] 59)) w1.heap.size (w1.heap.size + 1) g from ⟨alloc_cell1 w1 _ _ 0 _ rfl, fun o => by go_simp, alloc_cell2 w1 _ _ 0 _ rfl, alloc_cell2 w1 _ _ 1 _ rfl, alloc_cell2 w1 _ _ 2 _ rfl, alloc_cell2 w1 _ _ 3 _ rfl⟩) hb2
  have hs2 := hb2.size
  simp only [World.size_alloc] at hb2 hg2 hs2
  have HB2 : Hid (Below w.heap.size w w2) := HB1.out.trans (((two_belowS _ _ _).trans (hb2.mono (by omega))).mono HB1.out.size)
  have W2 : Hid (∀ o, VP ((w2.setCell ⟨w1.heap.size, 0, none⟩ (.slice (some ⟨g2, 0, none⟩) 6 6)).alloc o) w1.heap.size (w1.heap.size + 1) g2) := fun o => (V2.out.set (by omega)).below (one_belowS _ _)
  have N2 : Hid (∀ o, NdsAt ((w2.setCell ⟨w1.heap.size, 0, none⟩ (.slice (some ⟨g2, 0, none⟩) 6 6)).alloc o) (some ⟨g2, 0, none⟩) P6) := fun o =>
    (hO2.up (w3 := w2.setCell ⟨w1.heap.size, 0, none⟩ (.slice (some ⟨g2, 0, none⟩) 6 6)) (fun b hb _ => Below.heap_setCell _ _ _ _ (by show b ≠ w1.heap.size; omega))).nds.below (one_belowS _ _)
  have R2 : Hid (VH ((w2.setCell ⟨w1.heap.size, 0, none⟩ (.slice (some ⟨g2, 0, none⟩) 6 6)).alloc (.cells #[.int .i64 3, .int .i64 1] 26)) w2.heap.size 3) := by
    have := VH.new (w2.setCell ⟨w1.heap.size, 0, none⟩ (.slice (some ⟨g2, 0, none⟩) 6 6)) 3
    rw [World.size_setCell] at this
    exact this
  have n0 : w1.heap.size < w2.heap.size := by omega
  have n1 : w1.heap.size + 1 < w2.heap.size := by omega
  obtain ⟨a0, a1, _, _, _, _⟩ := V2.out
  clear hb2 hO2 V2 DA FA
  go_wp2_with fail
  refine Calls.mono (DM.out g2 _ (N2.out _)) ?_
  rintro e w3 ⟨g3, rfl, hb3, hg3, hO3⟩
  have V3 : Hid (VP w3 w1.heap.size (w1.heap.size + 1) g2) := VP.below (W2.out _) hb3
  have R3 : Hid (VH w3 w2.heap.size 3) := VH.below R2.out hb3
  have hs3 := hb3.size
  simp only [World.size_alloc, World.size_setCell] at hb3 hg3 hs3
  have HB3 : Hid (Below w.heap.size w w3) := Below.trans ((HB2.out.setCell (by simp; exact HB1.out.size) _).alloc (by simp; exact HB2.out.size) _) (hb3.mono (by have := HB2.out.size; omega))
  have m0 : w1.heap.size < w3.heap.size := by omega
  have m1 : w1.heap.size + 1 < w3.heap.size := by omega
  have m2 : w2.heap.size < w3.heap.size := by omega
  have W3 : Hid (∀ o, VP ((w3.setCell ⟨w1.heap.size, 0, none⟩ (.slice (some ⟨g3, 0, none⟩) 6 6)).alloc o) w1.heap.size (w1.heap.size + 1) g3) := fun o => (V3.out.set (by omega)).below (one_belowS _ _)
  have X3 : Hid (∀ o, VH ((w3.setCell ⟨w1.heap.size, 0, none⟩ (.slice (some ⟨g3, 0, none⟩) 6 6)).alloc o) w2.heap.size 3) := fun o => (R3.out.set (by omega)).below (one_belowS _ _)
  have N3 : Hid (∀ o, NdsAt ((w3.setCell ⟨w1.heap.size, 0, none⟩ (.slice (some ⟨g3, 0, none⟩) 6 6)).alloc o) (some ⟨g3, 0, none⟩) P7) := fun o =>
    (hO3.up (w3 := w3.setCell ⟨w1.heap.size, 0, none⟩ (.slice (some ⟨g3, 0, none⟩) 6 6)) (fun b hb _ => Below.heap_setCell _ _ _ _ (by show b ≠ w1.heap.size; omega))).nds.below (one_belowS _ _)
  have Y3 : Hid (VH ((w3.setCell ⟨w1.heap.size, 0, none⟩ (.slice (some ⟨g3, 0, none⟩) 6 6)).alloc (.cells #[.int .i64 4, .int .i64 1] 26)) w3.heap.size 4) := by
    have := VH.new (w3.setCell ⟨w1.heap.size, 0, none⟩ (.slice (some ⟨g3, 0, none⟩) 6 6)) 4
    rw [World.size_setCell] at this
    exact this
  clear hb3 hO3 W2 N2 R2 DM a0 a1
  obtain ⟨a0, a1, b0, b1, b2, b3⟩ := V3.out
  obtain ⟨r0, r1⟩ := R3.out
  go_wp2_with fail
  refine Calls.mono (DI.out g3 _ (N3.out _)) ?_
  rintro e w4 ⟨g4, rfl, hb4, hg4, hup4⟩
  have V4 : Hid (VP w4 w1.heap.size (w1.heap.size + 1) g3) := VP.below (W3.out _) hb4
  have Y4 : Hid (VH w4 w3.heap.size 4) := VH.below Y3.out hb4
  have hs4 := hb4.size
  simp only [World.size_alloc, World.size_setCell] at hb4 hg4 hs4
  have HB4 : Hid (Below w.heap.size w (w4.setCell ⟨w1.heap.size, 0, none⟩ (.slice (some ⟨g4, 0, none⟩) 6 6))) := (Below.trans ((HB3.out.setCell (by simp; exact HB1.out.size) _).alloc (by simp; exact HB3.out.size) _) (hb4.mono (by have := HB3.out.size; omega))).setCell (by simp; exact HB1.out.size) _
  have N4 : Hid (NdsAt (w4.setCell ⟨w1.heap.size, 0, none⟩ (.slice (some ⟨g4, 0, none⟩) 6 6)) (some ⟨g4, 0, none⟩) P8) := hup4 _ (fun b hb => Below.heap_setCell _ _ _ _ (by show b ≠ w1.heap.size; omega))
  have W4 : Hid (VP (w4.setCell ⟨w1.heap.size, 0, none⟩ (.slice (some ⟨g4, 0, none⟩) 6 6)) w1.heap.size (w1.heap.size + 1) g4) := V4.out.set (by omega)
  have Z4 : Hid (VH (w4.setCell ⟨w1.heap.size, 0, none⟩ (.slice (some ⟨g4, 0, none⟩) 6 6)) w3.heap.size 4) := Y4.out.set (by omega)
  clear hb4 hup4 W3 X3 N3 Y3 DI a0 a1 b0 b1 b2 b3 r0 r1 V3 R3
  obtain ⟨a0, a1, b0, b1, b2, b3⟩ := V4.out
  go_wp2_with fail
  refine Calls.mono (DS.out g4 _ N4.out) ?_
  rintro e w5 ⟨qa, qc, rfl, hb5, hsl⟩
  have V5 : Hid (VP w5 w1.heap.size (w1.heap.size + 1) g4) := VP.below W4.out hb5
  have Y5 : Hid (VH w5 w3.heap.size 4) := VH.below Z4.out hb5
  have N5 : Hid (NdsAt w5 (some ⟨g4, 0, none⟩) P8) := N4.out.below hb5
  have HB5 : Hid (Below w.heap.size w w5) := HB4.out.trans (hb5.mono HB4.out.size)
  have L5 : Hid (SltsAt w5 qa [⟨4, 0, [2, 1]⟩]) := hsl
  clear hb5 hsl a0 a1 b0 b1 b2 b3 V4 Y4 W4 Z4 N4 DS
  obtain ⟨a0, a1, b0, b1, b2, b3⟩ := V5.out
  go_wp2_with fail
  refine Calls.mono (DG.out g4 _ N5.out) ?_
  rintro e w6 ⟨rfl, hb6⟩
  have V6 : Hid (VP w6 w1.heap.size (w1.heap.size + 1) g4) := VP.below V5.out hb6
  have Y6 : Hid (VH w6 w3.heap.size 4) := VH.below Y5.out hb6
  have N6 : Hid (NdsAt w6 (some ⟨g4, 0, none⟩) P8) := N5.out.below hb6
  have HB6 : Hid (Below w.heap.size w w6) := HB5.out.trans (hb6.mono HB5.out.size)
  have L6 : Hid (SltsAt w6 qa [⟨4, 0, [2, 1]⟩]) := L5.out.below hb6
  clear hb6 a0 a1 b0 b1 b2 b3 V5 Y5 N5 L5 DG
  obtain ⟨a0, a1, b0, b1, b2, b3⟩ := V6.out
  go_wp2_with fail
  refine Calls.mono (DF.out g4 _ N6.out) ?_
  rintro e w7 ⟨sa, cap, rfl, hb7, hI7⟩
  have Y7 : Hid (VH w7 w3.heap.size 4) := VH.below Y6.out hb7
  have HB7 : Hid (Below w.heap.size w w7) := HB6.out.trans (hb7.mono HB6.out.size)
  obtain ⟨sb, so, es, _, _, ga, gc, f2, hin⟩ := (L6.out.below hb7) 0 (by simp)
  have I7 : Hid (IntsAt w7 sa [0, 4, 2, 1]) := hI7
  have G7 : Hid (IntsAt w7 ga [2, 1]) := hin
  subst es
  have f3 : w7.cell? ⟨sb, so + 2, none⟩ = some (.slice ga 2 gc) := f2
  obtain ⟨y0, y1⟩ := Y7.out
  have p0 := World.block_lt_of_cell? _ _ y0
  have p1 := World.block_lt_of_cell? _ _ f3
  clear hb7 hI7 hin f2 a0 a1 b0 b1 b2 b3 V6 Y6 N6 L6 DF
  go_wp2_with fail
  refine Calls.mono (E2.out ga gc w7.heap.size _ (G7.out.below (one_belowS _ _)) (alloc_cell w7 _ _ 0 rfl) (alloc_cell w7 _ _ 1 rfl)) ?_
  rintro e w8 ⟨rfl, hb8⟩
  have HB8 : Hid (Below w.heap.size w w8) := (HB7.out.trans ((one_belowS _ _).mono HB7.out.size)).trans (hb8.mono (by have := HB7.out.size; simp; omega))
  have I8 : Hid (IntsAt w8 sa [0, 4, 2, 1]) := (I7.out.below (one_belowS _ _)).below hb8
  have x0 := keepC (keepC y0 (one_belowS _ _)) hb8
  have x1 := World.block_lt_of_cell? _ _ x0
  clear hb8 y0 y1 p0 p1 f3 I7 G7
  go_wp2_with fail
  refine Calls.mono (E4.out sa cap w8.heap.size _ (I8.out.below (one_belowS _ _)) (alloc_cell w8 _ _ 0 rfl) (alloc_cell w8 _ _ 1 rfl) (alloc_cell w8 _ _ 2 rfl) (alloc_cell w8 _ _ 3 rfl)) ?_
  rintro e w9 ⟨rfl, hb9⟩
  have HB9 : Hid (Below w.heap.size w w9) := (HB8.out.trans ((one_belowS _ _).mono HB8.out.size)).trans (hb9.mono (by have := HB8.out.size; simp; omega))
  clear hb9
  go_wp2_with fail
  go_ret
  exact ⟨rfl, HB9.out⟩
end Go.Proofs.Ytlgnapdhnlhkpaa
