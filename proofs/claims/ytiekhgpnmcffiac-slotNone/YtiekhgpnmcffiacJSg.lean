/-
  The contract of hostsFit: each Host is in use, and the Host of one node alone.
-/
import Derived.Test.YtiekhgpnmcffiacJSf
namespace Go.Proofs.Ytiekhgpnmcffiac
open Go.RowKit

def HostK (S : List Nd) (i : Nat) : Prop := (nd S i).h ≠ -1 → (nd S (nd S i).h.toNat).u = true ∧ ∀ i', i' < i → (nd S i').h ≠ (nd S i).h
def HostU (S : List Nd) (k : Nat) : Prop := ∀ i, i < k → HostK S i

instance (S : List Nd) (k : Nat) : Decidable (HostU S k) := by unfold HostU HostK; infer_instance

set_option maxHeartbeats 4000000 in
theorem hostsFit_any (a : Option Addr) (c : Nat) (S : List Nd) (w : World) (hN : S.length ≤ 24) (hP : ∀ i, i < S.length → -1 ≤ (nd S i).h ∧ (nd S i).h < S.length) (hS : NdsAt w a S) :
    Calls Try.prog 100 #[.slice a S.length c] w fun e w' => e = .returned (.bool (decide (HostU S S.length))) ∧ Below w.heap.size w w' := by
  have HKt : Hid (HostU S S.length → decide (HostU S S.length) = true) := fun h => decide_eq_true h
  have HKf : Hid (¬ HostU S S.length → decide (HostU S S.length) = false) := fun h => decide_eq_false h
  generalize decide (HostU S S.length) = KO at *
  have HS : Hid (NdsAt w a S) := hS
  have HP : Hid (∀ i, i < S.length → -1 ≤ (nd S i).h ∧ (nd S i).h < S.length) := hP
  clear hS hP
  generalize hn : S.length = n at *
  have HN : Hid (S.length = n) := hn
  clear hn
  have hmk := makeInts n hN
  go_enter Try.func100, Try.ntmps100
  go_wp2
  go_loopg [11] n (fun g s11 wr => ∃ (k : Nat) (f : Nat → Int), k ≤ n ∧ n - k ≤ g ∧ s11 = .int .i64 k ∧ Below w.heap.size w wr ∧ wr.rowIs w.heap.size 3 n (fun j => .int .i64 (f j)) ∧ Hid (∀ j, j < n → (f j = 0 ∧ ∀ i, i < k → (nd S i).h ≠ j) ∨ (f j = 1 ∧ ∃ i, i < k ∧ (nd S i).h = j)) ∧ Hid (HostU S k))
  case atStart =>
    exact ⟨0, fun _ => 0, by omega, by omega, rfl, (Below.refl _ _).alloc (Nat.le_refl _) _, World.rowIs_made _ _ _ _, (show Hid _ from fun j _ => Or.inl ⟨rfl, fun i hi => absurd hi (Nat.not_lt_zero _)⟩), (show Hid _ from fun i hi => absurd hi (Nat.not_lt_zero _))⟩
  case round =>
    obtain ⟨k, f, hk, hg, rfl, hb, hF, A, U⟩ := hrel
    by_cases hlt : k < n
    · obtain ⟨b, o, rfl, c0, c1, c2, c3, c4, ⟨ka, kc, c5, hks⟩, c6, c7⟩ := HS.out k (by rw [HN.out]; exact hlt)
      have hbw : b < w.heap.size := World.block_lt_of_cell? w ⟨b, o + k * 8, none⟩ c0
      rw [← hb.cell (by exact hbw)] at c0 c1 c2 c3 c4 c5 c6 c7
      have HF : Hid (wr.rowIs w.heap.size 3 n (fun j => .int .i64 (f j))) := hF
      have hwr := hF.lt
      obtain ⟨hh1, hh2⟩ := HP.out k hlt
      have STEP : Hid (HostK S k → HostU S (k + 1)) := fun h i hi => by
        by_cases e : i = k
        · rw [e]; exact h
        · exact U.out i (by omega)
      have BAD : Hid (¬ HostK S k → KO = false) := fun h => HKf.out (fun hu => h (hu k hlt))
      clear hks
      generalize hh : (nd S k).h = y at *
      have HH : Hid ((nd S k).h = y) := hh
      clear hh
      by_cases hy : y = -1
      · subst hy
        clear hF
        go_wp2
        go_roundg (n - (k + 1))
        case measure => omega
        case rel =>
          refine ⟨k + 1, f, by omega, by omega, by go_num, hb.alloc hb.size _, HF.out.alloc _, (show Hid _ from fun j hj => ?_), STEP.out (fun h => absurd HH.out h)⟩
          rcases A.out j hj with ⟨h0, h1⟩ | ⟨h0, i, hi, h1⟩
          · refine Or.inl ⟨h0, fun i hi => ?_⟩
            by_cases e : i = k
            · rw [e, HH.out]; omega
            · exact h1 i (by omega)
          · exact Or.inr ⟨h0, i, by omega, h1⟩
      · obtain ⟨j, rfl⟩ : ∃ j : Nat, y = (j : Int) := ⟨y.toNat, by omega⟩
        have hj : j < n := by omega
        obtain ⟨b', o', e', d0, _⟩ := HS.out j (by rw [HN.out]; exact hj)
        cases e'
        rw [← hb.cell (by exact hbw)] at d0
        have cst := hF.cell hj
        have hfz := hF.frozen
        have hv := A.out j hj
        have hy1 : ((j : Int) == -1) = false := by simp [hy]
        generalize hfj : f j = v at *
        have FJ : Hid (f j = v) := hfj
        have AV : Hid ((v = 0 ∧ ∀ i, i < k → (nd S i).h ≠ j) ∨ (v = 1 ∧ ∃ i, i < k ∧ (nd S i).h = j)) := hv
        have hv0 : 0 ≤ v := by omega
        have hv1 : v ≤ 1 := by omega
        clear hfj hv
        have d1 : ∀ v o1, ((wr.setCell ⟨w.heap.size, j, none⟩ v).alloc o1).cell? ⟨b, o + j * 8, none⟩ = some (.bool (nd S j).u) := fun v o1 => ((((Below.refl w.heap.size wr).setCell (Nat.le_refl _) v).alloc (by have := hF.lt; simp [World.setCell]; omega) o1).cell (by exact hbw)).trans d0
        clear hF
        cases hu : (nd S j).u with
        | false =>
          rw [hu] at d0 d1
          have Z : Hid _ := BAD.out (fun h => by have := (h (by rw [HH.out]; omega)).1; rw [HH.out] at this; simp [hu] at this)
          clear hu
          go_wp2
          go_ret
          exact ⟨by rw [Z.out]; rfl, (hb.setCell (Nat.le_refl _) _).alloc (by simpa using hb.size) _⟩
        | true =>
          rw [hu] at d0 d1
          by_cases hv : v = 0
          · subst hv
            have HK : Hid (HostK S k) := fun _ => ⟨by rw [HH.out]; simpa using hu, fun i hi => by
              rw [HH.out]
              rcases AV.out with ⟨_, h⟩ | ⟨h, _⟩
              · exact h i hi
              · omega⟩
            clear hu
            go_wp2
            go_roundg (n - (k + 1))
            case measure => omega
            case rel =>
              refine ⟨k + 1, fun i => if i = j then 1 else f i, by omega, by omega, by go_num, ?_, ?_, (show Hid _ from fun i hi => ?_), STEP.out HK.out⟩
              · exact (hb.setCell (Nat.le_refl _) _).alloc (by simpa using hb.size) _
              · refine ((HF.out.set j _).alloc _).congr (fun i _ => ?_)
                dsimp only
                by_cases e : i = j
                · rw [if_pos e, if_pos e]
                · rw [if_neg e, if_neg e]
              · dsimp only
                by_cases e : i = j
                · rw [if_pos e]
                  exact Or.inr ⟨rfl, k, by omega, by rw [HH.out, e]⟩
                · rw [if_neg e]
                  rcases A.out i hi with ⟨h0, h1⟩ | ⟨h0, r, hr, h1⟩
                  · refine Or.inl ⟨h0, fun r hr => ?_⟩
                    by_cases e2 : r = k
                    · rw [e2, HH.out]; omega
                    · exact h1 r (by omega)
                  · exact Or.inr ⟨h0, r, by omega, h1⟩
          · have hv : v = 1 := by omega
            subst hv
            have Z : Hid _ := BAD.out (fun h => by
              rcases AV.out with ⟨h0, _⟩ | ⟨_, r, hr, h1⟩
              · omega
              · exact (h (by rw [HH.out]; omega)).2 r hr (by rw [HH.out]; exact h1))
            clear hu
            go_wp2
            go_ret
            exact ⟨by rw [Z.out]; rfl, (hb.setCell (Nat.le_refl _) _).alloc (by simpa using hb.size) _⟩
    · have : k = n := by omega
      subst this
      clear hF
      go_wp2
      go_ret
      exact ⟨by rw [HKt.out U.out]; rfl, hb⟩
end Go.Proofs.Ytiekhgpnmcffiac
