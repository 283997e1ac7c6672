/-
  The contracts of fitsUnder, and of slices.Contains at []api.Hand.
-/
import Derived.Test.YtiekhgpnmcffiacJTbSp
import Derived.BigQuiet
import Derived.Laws.StructEq
import Derived.Shelf.SlGeneric
import Derived.Shelf.Spec.SlicesInsertGrow
import Derived.Ground.Names2Prog
import Derived.Ground.SlgfProg
import Derived.Shelf.SlicesE.DeleteFunc
import Derived.Test.YtiekhgpnmcffiacProg
namespace Go.Proofs.Ytiekhgpnmcffiac
open Go.RowKit

def fitsB (S : List Nd) (ch pa : Nat) : Bool := decide ((nd S ch).h = -1) && (!decide ((pa : Int) = ch) && !underB S pa ch)

set_option maxHeartbeats 1000000 in
theorem fitsUnder_any (a : Option Addr) (c : Nat) (S : List Nd) (ch pa : Nat) (w : World) (hN : S.length ≤ 9223372036854775807) (hc : ch < S.length) (hS : NdsAt w a S) :
    Calls Try.prog 82 #[.agg #[.slice a S.length c], .int .i64 ch, .int .i64 pa] w fun e w' => e = .returned (.bool (fitsB S ch pa)) ∧ Below w.heap.size w w' := by
  unfold fitsB
  have du := fun (W : World) (hW : NdsAt W a S) => under_any a c S pa ch W hN hW
  have DU : Hid _ := du
  have HS : Hid (NdsAt w a S) := hS
  have hc2 : (ch : Int) < (S.length : Int) := by omega
  obtain ⟨b, o, rfl, c0, _, _, _, _, _, c6, _⟩ := hS ch hc
  have hbw := World.block_lt_of_cell? _ _ c0
  clear hS du
  generalize underB S pa ch = b3 at *
  generalize (nd S ch).h = hh at *
  generalize S.length = n at *
  by_cases h1 : hh = -1
  · subst h1
    by_cases h2 : (pa : Int) = ch
    · have e : decide ((pa : Int) = ch) = true := decide_eq_true h2
      have h3 : pa = ch := by omega
      subst h3
      rw [e]
      simp only [decide_true, Bool.not_true, Bool.false_and, Bool.and_false]
      go_enter Try.func82, Try.ntmps82
      go_wp2
      go_ret
      exact ⟨rfl, (Below.refl _ _).alloc (Nat.le_refl _) _⟩
    · have e : decide ((pa : Int) = ch) = false := decide_eq_false h2
      rw [e]
      have e1 : ((pa : Int) == (ch : Int)) = false := beq_eq_false_iff_ne.2 h2
      have e2 : ((pa : Int) != (ch : Int)) = true := by simp [bne, e1]
      have h2n : ¬ pa = ch := by omega
      simp only [decide_true, Bool.not_false, Bool.true_and]
      cases b3
      all_goals
        go_enter Try.func82, Try.ntmps82
        go_wp2_with (go_at_call 103; refine (DU.out _ (HS.out.below ((Below.refl _ _).alloc (Nat.le_refl _) _))).mono ?_; rintro e w1 ⟨rfl, hb1⟩)
        go_ret
        exact ⟨rfl, ((Below.refl _ _).alloc (Nat.le_refl _) _).trans (hb1.mono (by simp))⟩
  · have e : decide (hh = -1) = false := decide_eq_false h1
    have e1 : (hh == -1) = false := beq_eq_false_iff_ne.2 h1
    rw [e]
    simp only [Bool.false_and]
    go_enter Try.func82, Try.ntmps82
    go_wp2
    go_ret
    exact ⟨rfl, (Below.refl _ _).alloc (Nat.le_refl _) _⟩

set_option maxHeartbeats 1000000 in
theorem hasHand_any (ha : Option Addr) (hc : Nat) (hs : List (Int × Int)) (p u : Int) (w : World) (hL : hs.length ≤ 9223372036854775807) (hH : HandsAt w ha hs) :
    Calls Try.prog 104 #[.slice ha hs.length hc, .agg #[.int .i64 p, .int .i64 u]] w fun e w' => ∃ r : Int, e = .returned (.int .i64 r) ∧ Below w.heap.size w w' ∧ ((0 ≤ r) ↔ (p, u) ∈ hs) := by
  have HH : Hid (HandsAt w ha hs) := hH
  have IN : Hid (∀ k, k < hs.length → hs.getD k (0, 0) = (p, u) → (p, u) ∈ hs) := fun k hk h => by rw [← h, getD_elem hs _ hk]; exact List.getElem_mem hk
  have OUT : Hid ((∀ k, k < hs.length → hs.getD k (0, 0) ≠ (p, u)) → (p, u) ∉ hs) := fun h hm => by
    obtain ⟨i, hi, e⟩ := List.getElem_of_mem hm
    exact h i hi (by rw [getD_elem hs _ hi]; exact e)
  clear hH
  generalize hm : hs.length = m at *
  have HM : Hid _ := hm
  clear hm
  generalize ((p, u) ∈ hs) = Q at *
  go_enter Try.func104, Try.ntmps104
  go_wp2
  go_loopg [8] m (fun g s8 wr => ∃ k : Nat, k ≤ m ∧ m - k ≤ g ∧ s8 = .int .i64 k ∧ Below (w.heap.size + 1) (w.alloc (.cells #[.int .i64 p, .int .i64 u] 26)) wr ∧ Hid (∀ i, i < k → hs.getD i (0, 0) ≠ (p, u)))
  case atStart => exact ⟨0, by omega, by omega, rfl, Below.refl _ _, (show Hid _ from fun i hi => absurd hi (Nat.not_lt_zero _))⟩
  case round =>
    obtain ⟨k, hk, hg, rfl, hb, A⟩ := hrel
    have hB0 : Below w.heap.size w wr := ((Below.refl _ _).alloc (Nat.le_refl _) _).trans (hb.mono (by omega))
    have x0 : wr.cell? ⟨w.heap.size, 0, none⟩ = some (.int .i64 p) := (hb.cell (by simp)).trans (by go_simp)
    have x1 : wr.cell? ⟨w.heap.size, 1, none⟩ = some (.int .i64 u) := (hb.cell (by simp)).trans (by go_simp)
    by_cases hlt : k < m
    · have hlt2 : (k : Int) < (m : Int) := by omega
      obtain ⟨b, o, rfl, c0, c1⟩ := (HH.out.below hB0) k (by rw [HM.out]; exact hlt)
      generalize hy : hs.getD k (0, 0) = y at *
      obtain ⟨yp, yu⟩ := y
      dsimp only at c0 c1
      have HY : Hid _ := hy
      clear hy
      by_cases e1 : p = yp
      · by_cases e2 : u = yu
        · subst e1
          subst e2
          have Z : Hid _ := IN.out k hlt HY.out
          go_wp2_with fail
          go_quiet (fail)
          go_wp2
          go_ret
          exact ⟨k, rfl, Below.drewNs hB0 _, fun _ => Z.out, fun _ => by omega⟩
        · have e3 : (u == yu) = false := beq_eq_false_iff_ne.2 e2
          have NE : Hid ((yp, yu) ≠ (p, u)) := fun h => e2 (by cases h; rfl)
          subst e1
          go_wp2_with fail
          go_quiet (fail)
          go_wp2
          go_roundg (m - (k + 1))
          case measure => omega
          case rel =>
            refine ⟨k + 1, by omega, by omega, by go_num, Below.drewNs hb _, (show Hid _ from fun i hi => ?_)⟩
            by_cases e : i = k
            · rw [e, HY.out]; exact NE.out
            · exact A.out i (by omega)
      · have e3 : (p == yp) = false := beq_eq_false_iff_ne.2 e1
        have NE : Hid ((yp, yu) ≠ (p, u)) := fun h => e1 (by cases h; rfl)
        go_wp2_with fail
        go_quiet (fail)
        go_wp2
        go_roundg (m - (k + 1))
        case measure => omega
        case rel =>
          refine ⟨k + 1, by omega, by omega, by go_num, Below.drewNs hb _, (show Hid _ from fun i hi => ?_)⟩
          by_cases e : i = k
          · rw [e, HY.out]; exact NE.out
          · exact A.out i (by omega)
    · have : k = m := by omega
      subst this
      have Z : Hid _ := OUT.out A.out
      go_wp2
      go_ret
      exact ⟨-1, rfl, hB0, fun h => by omega, fun h => absurd h Z.out⟩
end Go.Proofs.Ytiekhgpnmcffiac

namespace Go.Proofs
open Go.Shelf
def Try.lays21_ren : Go.Shelf.Ren := ⟨fun | 21 => 106 | 27 => 114 | 28 => 115 | 35 => 118 | 39 => 119 | n => n, fun | 22 => 39 | 3 => 3 | 4 => 4 | 0 => 0 | n => n, fun | n => n⟩
theorem Try.lays21 : Go.Proofs.Lays2.n21 Try.prog Try.lays21_ren := {
  mixed := by kernel_rfl
  f21 := Try.func106.trans (congrArg some (by kernel_rfl))
  f27 := Try.func114.trans (congrArg some (by kernel_rfl))
  f28 := Try.func115.trans (congrArg some (by kernel_rfl))
  f35 := Try.func118.trans (congrArg some (by kernel_rfl))
  f39 := Try.func119.trans (congrArg some (by kernel_rfl))
  t0 := Try.underlying0
  a0 := Try.isAgg0
  z0 := Try.sizeOf0
  v0 := Try.zeroValue0
  t3 := Try.underlying3
  a3 := Try.isAgg3
  z3 := Try.sizeOf3
  v3 := Try.zeroValue3
  t4 := Try.underlying4
  a4 := Try.isAgg4
  z4 := Try.sizeOf4
  v4 := Try.zeroValue4
  t22 := Try.underlying39
  a22 := Try.isAgg39
  z22 := Try.sizeOf39
  v22 := Try.zeroValue39
  i3 := by kernel_rfl }
def Try.laysSlH10_del_ren : Go.Shelf.Ren := ⟨fun | 10 => 75 | 6 => 74 | n => n, fun | 22 => 39 | 23 => 3 | 25 => 78 | 3 => 3 | 4 => 4 | 0 => 0 | n => n, fun | n => n⟩
theorem Try.laysSlH10_del : Go.Proofs.SlLaysH.n10 Try.prog Try.laysSlH10_del_ren := {
  mixed := by kernel_rfl
  f6 := ⟨Try.f74.name, by decide, Try.func74.trans (congrArg some (by kernel_rfl))⟩
  f10 := ⟨Try.f75.name, by decide, Try.func75.trans (congrArg some (by kernel_rfl))⟩
  t0 := Try.underlying0
  a0 := Try.isAgg0
  z0 := Try.sizeOf0
  v0 := Try.zeroValue0
  t3 := Try.underlying3
  a3 := Try.isAgg3
  z3 := Try.sizeOf3
  v3 := Try.zeroValue3
  t4 := Try.underlying4
  a4 := Try.isAgg4
  z4 := Try.sizeOf4
  v4 := Try.zeroValue4
  t22 := Try.underlying39
  a22 := Try.isAgg39
  z22 := Try.sizeOf39
  v22 := Try.zeroValue39
  a23 := Try.isAgg3
  z23 := Try.sizeOf3
  t25 := Try.underlying78
  a25 := Try.isAgg78
  z25 := Try.sizeOf78
  v25 := Try.zeroValue78 }
end Go.Proofs
