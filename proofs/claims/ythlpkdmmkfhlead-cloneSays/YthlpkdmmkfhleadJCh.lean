/-
  The closed fact: a graph with a circle.
-/
import Derived.Test.YthlpkdmmkfhleadJCg
namespace Go.Proofs.Ythlpkdmmkfhlead
open Go.RowKit Go.ChangeShapes Go.WideShapes

def G0 : List Cl := [⟨1, [2, 2]⟩, ⟨5, []⟩, ⟨3, [0]⟩]
def C0 : List Cl := [⟨1, [1, 1]⟩, ⟨3, [0]⟩]
theorem g0_check : gcheckE G0 = 0 := by decide
theorem g0_copy : resF G0 = C0 := by decide +kernel
theorem g0_big : BigC G0 := (gcheck_zero.1 g0_check).big

theorem ints_two {w : World} {b : Nat} {x y : Int} (h0 : w.cell? ⟨b, 0, none⟩ = some (.int .i64 x)) (h1 : w.cell? ⟨b, 1, none⟩ = some (.int .i64 y)) : IntsAt w (some ⟨b, 0, none⟩) [x, y] := fun i hi => by
  match i, hi with
  | 0, _ => exact ⟨b, 0, rfl, h0⟩
  | 1, _ => exact ⟨b, 0, rfl, h1⟩
theorem ints_one {w : World} {b : Nat} {x : Int} (h0 : w.cell? ⟨b, 0, none⟩ = some (.int .i64 x)) : IntsAt w (some ⟨b, 0, none⟩) [x] := fun i hi => by
  match i, hi with
  | 0, _ => exact ⟨b, 0, rfl, h0⟩

theorem g0_at {w : World} {a b d : Nat} (h0 : w.cell? ⟨d, 0, none⟩ = some (.int .i64 1)) (h1 : w.cell? ⟨d, 1, none⟩ = some (.slice (some ⟨a, 0, none⟩) 2 2)) (h2 : w.cell? ⟨d, 2, none⟩ = some (.int .i64 5)) (h3 : w.cell? ⟨d, 3, none⟩ = some (.slice none 0 0)) (h4 : w.cell? ⟨d, 4, none⟩ = some (.int .i64 3)) (h5 : w.cell? ⟨d, 5, none⟩ = some (.slice (some ⟨b, 0, none⟩) 1 1))
    (a0 : w.cell? ⟨a, 0, none⟩ = some (.int .i64 2)) (a1 : w.cell? ⟨a, 1, none⟩ = some (.int .i64 2)) (b0 : w.cell? ⟨b, 0, none⟩ = some (.int .i64 0)) : ClsAt w (some ⟨d, 0, none⟩) G0 := fun i hi => by
  match i, hi with
  | 0, _ => exact ⟨d, 0, rfl, h0, _, _, h1, ints_two a0 a1⟩
  | 1, _ => exact ⟨d, 0, rfl, h2, _, _, h3, fun j hj => absurd hj (Nat.not_lt_zero _)⟩
  | 2, _ => exact ⟨d, 0, rfl, h4, _, _, h5, ints_one b0⟩
theorem c0_at {w : World} {a b d : Nat} (h0 : w.cell? ⟨d, 0, none⟩ = some (.int .i64 1)) (h1 : w.cell? ⟨d, 1, none⟩ = some (.slice (some ⟨a, 0, none⟩) 2 2)) (h4 : w.cell? ⟨d, 2, none⟩ = some (.int .i64 3)) (h5 : w.cell? ⟨d, 3, none⟩ = some (.slice (some ⟨b, 0, none⟩) 1 1))
    (a0 : w.cell? ⟨a, 0, none⟩ = some (.int .i64 1)) (a1 : w.cell? ⟨a, 1, none⟩ = some (.int .i64 1)) (b0 : w.cell? ⟨b, 0, none⟩ = some (.int .i64 0)) : ClsAt w (some ⟨d, 0, none⟩) C0 := fun i hi => by
  match i, hi with
  | 0, _ => exact ⟨d, 0, rfl, h0, _, _, h1, ints_two a0 a1⟩
  | 1, _ => exact ⟨d, 0, rfl, h4, _, _, h5, ints_one b0⟩

def ClonedOk : Prop := ∀ w : World, Calls Try.prog 19 #[] w fun e w' => e = .returned (.bool true) ∧ Below w.heap.size w w'

set_option maxRecDepth 100000 in
set_option maxHeartbeats 2000000 in
theorem cloned_ok : ClonedOk := by
  intro w
  have D : Hid (∀ d W, ClsAt W (some ⟨d, 0, none⟩) G0 → Calls Try.prog 16 #[.agg #[.slice (some ⟨d, 0, none⟩) 3 3]] W fun e w' => ∃ va vc, e = .returned (.tuple #[.agg #[.slice va 2 vc], .int .i64 0]) ∧ Below W.heap.size W w' ∧ ClsAt w' va C0) := fun d W hW => by
    refine (copy_any (some ⟨d, 0, none⟩) 3 G0 W (by decide) g0_big hW).mono ?_
    rintro e w' ⟨v, rfl, hb, K, hown⟩
    rw [g0_copy] at hown
    obtain ⟨va, vc, rfl, hc⟩ := hown.cls
    exact ⟨va, vc, by rw [g0_check]; rfl, hb, hc⟩
  have DS : Hid (∀ va vc d W, ClsAt W va C0 → ClsAt W (some ⟨d, 0, none⟩) C0 → Calls Try.prog 22 #[.agg #[.slice va 2 vc], .agg #[.slice (some ⟨d, 0, none⟩) 2 2]] W fun e w' => e = .returned (.bool true) ∧ Below W.heap.size W w') := fun va vc d W h1 h2 => by
    refine (gsame_any va (some ⟨d, 0, none⟩) vc 2 C0 C0 W (by decide) (by intro i hi; match i, hi with | 0, _ => decide | 1, _ => decide) h1 h2).mono ?_
    rintro e w' ⟨r, rfl, hb, hr⟩
    exact ⟨by rw [hr.2 rfl], hb⟩
  go_enter Try.func19, Try.ntmps19
  go_wp2_with fail
  refine Calls.mono (D.out _ _ (g0_at (a := w.heap.size) (b := w.heap.size + 1) (by go_simp) (by go_simp) (by go_simp) (by go_simp) (by go_simp) (by go_simp) (by go_simp) (by go_simp) (by go_simp))) ?_
  rintro e w1 ⟨va, vc, rfl, hb, hc⟩
  have HB : Hid (Below w.heap.size w w1) := ((two_belowS w _ _).alloc (by simp; omega) _).trans (hb.mono (by simp; omega))
  have HC : Hid (ClsAt w1 va C0) := hc
  clear hb hc D
  go_wp2_with fail
  refine Calls.mono (DS.out va vc _ _ (HC.out.below ((((one_belowS _ _).alloc (by simp) _).alloc (by simp; omega) _).alloc (by simp; omega) _)) (c0_at (a := w1.heap.size + 1) (b := w1.heap.size + 2) (by go_simp) (by go_simp) (by go_simp) (by go_simp) (by go_simp) (by go_simp) (by go_simp))) ?_
  rintro e w2 ⟨rfl, hb⟩
  have HB2 : Hid (Below w.heap.size w w2) := HB.out.trans (((((one_belowS w1 _).alloc (by simp) _).alloc (by simp; omega) _).alloc (by simp; omega) _).trans (hb.mono (by simp; omega)) |>.mono HB.out.size)
  clear hb
  go_wp2_with fail
  go_ret
  exact ⟨rfl, HB2.out⟩
end Go.Proofs.Ythlpkdmmkfhlead
