/-
  The contract of kidsFit: each node that has a Parent stands in its children once, and no other one stands in any.
-/
import Derived.Test.YtgjfmepbphfjoaaGreatUSdSeBk
namespace Go.Proofs.YtgjfmepbphfjoaaGreat
open Go.RowKit

theorem info3 : (Tryz.prog.info? 3).map (fun i => (i.zero, i.size, i.bytes)) = some (some (.int .i64 0), 1, 8) := by kernel_rfl

theorem makeInts (n : Nat) (hn : n ≤ 24) (w : World) : (Instr.makeSlice 29 (.int .i64 (n : Int)) (.int .i64 (n : Int))).run Tryz.prog w = .ok (.slice (some ⟨w.heap.size, 0, none⟩) n n) (w.alloc (.cells (madeCells #[.int .i64 0] n) 3)) :=
  run_make_row' (P := Tryz.prog) 29 3 (.int .i64 0) 8 Tryz.underlying29 info3 rfl .i64 .i64 n (by omega) (by omega) w

set_option maxHeartbeats 4000000 in
theorem kidsFit_any (a : Option Addr) (c : Nat) (S : List Nd) (w : World) (hN : S.length ≤ 24) (hB : Big S) (hP : ∀ i, i < S.length → ∀ x ∈ (nd S i).ks, -1 ≤ x ∧ x < S.length) (hS : NdsAt w a S) :
    Calls Tryz.prog 50 #[.slice a S.length c] w fun e w' => ∃ r : Bool, e = .returned (.bool r) ∧ Below w.heap.size w w' ∧ (r = true ↔ KidsOk S) := by
  have HK : Hid (KidsOk S ↔ (FitU S S.length ∧ ∀ j, j < S.length → cntU S S.length j ≤ 1 ∧ ((nd S j).p ≠ -1 → cntU S S.length j ≠ 0))) := Iff.rfl
  generalize KidsOk S = KO at *
  have HS : Hid (NdsAt w a S) := hS
  have HB : Hid (Big S) := hB
  have HP : Hid (∀ i, i < S.length → ∀ x ∈ (nd S i).ks, -1 ≤ x ∧ x < S.length) := hP
  clear hS hB hP
  have HL : Hid (S.length = S.length) := rfl
  generalize hn : S.length = n at *
  have HN : Hid (S.length = n) := hn
  clear hn HL
  have hmk := makeInts n hN
  go_enter Tryz.func50, Tryz.ntmps50
  go_wp2
  go_loopg [15] n (fun g s15 wr => ∃ (k : Nat) (f : Nat → Int), k ≤ n ∧ n - k ≤ g ∧ s15 = .int .i64 k ∧ Below w.heap.size w wr ∧ wr.rowIs w.heap.size 3 n (fun j => .int .i64 (f j)) ∧ Hid (∀ j, j < n → f j = (cntU S k j : Int)) ∧ Hid (FitU S k))
  case atStart =>
    refine ⟨0, fun _ => 0, by omega, by omega, rfl, (Below.refl _ _).alloc (Nat.le_refl _) _, World.rowIs_made _ _ _ _, (show Hid _ from fun j _ => by rw [cntU_zero]; rfl), (show Hid _ from fun i hi => absurd hi (Nat.not_lt_zero _))⟩
  case round =>
    obtain ⟨k, f, hk, hg, rfl, hb, hF, A, U⟩ := hrel
    by_cases hlt : k < n
    · obtain ⟨b, o, rfl, c0, c1, c2, c3, c4, ⟨ka, kc, c5, hks⟩, c6, c7⟩ := HS.out k (by rw [HN.out]; exact hlt)
      have hbw : b < w.heap.size := World.block_lt_of_cell? w ⟨b, o + k * 8, none⟩ c0
      rw [← hb.cell (by exact hbw)] at c0 c1 c2 c3 c4 c5 c6 c7
      have hbig := HB.out k (by rw [HN.out]; exact hlt)
      have HF : Hid (wr.rowIs w.heap.size 3 n (fun j => .int .i64 (f j))) := hF
      have HI : Hid (IntsAt w ka (nd S k).ks) := hks
      have hwr := hF.lt
      have P : Hid (∀ x ∈ (nd S k).ks, -1 ≤ x ∧ x < (n : Int)) := HP.out k hlt
      have FU : Hid (FitU S n → ∀ x ∈ (nd S k).ks, FitK S k x) := fun h => h k hlt
      clear hF hks
      generalize hks : (nd S k).ks = ks at *
      have KS : Hid ((nd S k).ks = ks) := hks
      clear hks
      generalize hL : ks.length = L at *
      have LL : Hid (ks.length = L) := hL
      clear hL
      go_wp2
      go_loopg [23] L (fun g s23 w2 => ∃ (q : Nat) (f2 : Nat → Int), q ≤ L ∧ L - q ≤ g ∧ s23 = .int .i64 q ∧ Below w.heap.size w w2 ∧ w2.rowIs w.heap.size 3 n (fun j => .int .i64 (f2 j)) ∧ Hid (∀ j, j < n → f2 j = ((cntU S k j + cntK ks q j : Nat) : Int)) ∧ Hid (∀ i, i < q → FitK S k (ks.getD i 0)))
      case atStart =>
        refine ⟨0, f, by omega, by omega, rfl, hb.alloc hb.size _, HF.out.alloc _, (show Hid _ from fun j hj => by rw [cntK_zero, A.out j hj]; rfl), (show Hid _ from fun i hi => absurd hi (Nat.not_lt_zero _))⟩
      case round =>
        obtain ⟨q, f2, hq, hg2, rfl, hb2, hF2, A2, U2⟩ := hrel
        by_cases hql : q < L
        · obtain ⟨kb, ko, rfl, hkc⟩ := (HI.out.below hb2) q (by rw [LL.out]; exact hql)
          have hmem : ks.getD q 0 ∈ ks := by rw [getD_elem ks 0 (by rw [LL.out]; exact hql)]; exact List.getElem_mem _
          have MEM : Hid (ks.getD q 0 ∈ ks) := hmem
          obtain ⟨hy1, hy2⟩ := P.out _ hmem
          clear hmem
          generalize hy : ks.getD q 0 = y at *
          have HY : Hid (ks.getD q 0 = y) := hy
          clear hy
          have HF2 : Hid (wr.rowIs w.heap.size 3 n (fun j => .int .i64 (f2 j))) := hF2
          have BAD : Hid (¬ FitK S k y → (false = true ↔ KO)) := fun hnf => ⟨fun h => (by cases h), fun h => absurd (FU.out ((HK.out.1 h).1) y MEM.out) hnf⟩
          by_cases hy3 : y = -1
          · subst hy3
            have Z : Hid _ := BAD.out (fun h => h.1 rfl)
            clear hF2
            go_wp2
            go_ret
            exact ⟨false, rfl, hb2, Z.out⟩
          · obtain ⟨j, rfl⟩ : ∃ j : Nat, y = (j : Int) := ⟨y.toNat, by omega⟩
            have hj : j < n := by omega
            obtain ⟨b', o', e', d0, _, _, _, d4, _⟩ := HS.out j (by rw [HN.out]; exact hj)
            cases e'
            rw [← hb2.cell (by exact hbw)] at d0 d4
            have cst := hF2.cell hj
            have hfz := hF2.frozen
            have hv := A2.out j hj
            clear hF2
            cases hu : (nd S j).u with
            | false =>
              rw [hu] at d0
              have Z : Hid _ := BAD.out (fun h => by have := h.2.1; simp [hu] at this)
              clear hu
              go_wp2
              go_ret
              exact ⟨false, rfl, hb2, Z.out⟩
            | true =>
              rw [hu] at d0
              by_cases hp : (nd S j).p = (k : Int)
              · have hz := cntU_other S k j (by rw [HN.out]; omega) U.out hp
                have hle := cntK_le ks q j
                have FK : Hid (FitK S k (j : Int)) := ⟨by omega, by simpa using hu, by simpa using hp⟩
                rw [hz] at hv
                have hv0 : 0 ≤ f2 j := by omega
                have hv1 : f2 j < 9223372036854775807 := by omega
                rw [hp] at d4
                clear hu hp hz hle hv
                generalize hfj : f2 j = v at *
                have FJ : Hid (f2 j = v) := hfj
                clear hfj
                go_wp2
                go_roundg (L - (q + 1))
                case measure => omega
                case rel =>
                  refine ⟨q + 1, fun i => if i = j then v + 1 else f2 i, by omega, by omega, by go_num, hb2.setCell (Nat.le_refl _) _, (HF2.out.set j _).congr (fun i _ => ?_), (show Hid _ from fun i hi => ?_), (show Hid _ from fun i hi => ?_)⟩
                  · dsimp only
                    by_cases e : i = j
                    · rw [if_pos e, if_pos e]
                    · rw [if_neg e, if_neg e]
                  · dsimp only
                    rw [cntK_succ ks q i (by rw [LL.out]; exact hql), HY.out]
                    by_cases e : i = j
                    · subst e
                      have := A2.out i hi
                      rw [if_pos rfl, if_pos rfl]
                      rw [FJ.out] at this
                      omega
                    · have := A2.out i hi
                      rw [if_neg e, if_neg (by omega)]
                      exact this
                  · by_cases e : i = q
                    · subst e
                      rw [HY.out]
                      exact FK.out
                    · exact U2.out i (by omega)
              · have Z : Hid _ := BAD.out (fun h => hp (by simpa using h.2.2))
                generalize (nd S j).p = pj at d4 hp
                have hp1 : (pj == (k : Int)) = false := by simp [hp]
                have hp2 : (pj != (k : Int)) = true := by simp [hp]
                clear hu
                go_wp2
                go_ret
                exact ⟨false, rfl, hb2, Z.out⟩
        · have : q = L := by omega
          subst this
          have HF2 : Hid (wr.rowIs w.heap.size 3 n (fun j => .int .i64 (f2 j))) := hF2
          clear hF2
          go_wp2
          go_roundg (n - (k + 1))
          case measure => omega
          case rel =>
            refine ⟨k + 1, f2, by omega, by omega, by go_num, hb2, HF2.out, (show Hid _ from fun j hj => ?_), (show Hid _ from fun i hi => ?_)⟩
            · rw [A2.out j hj, cntU_succ S k j (by rw [HN.out]; exact hlt), KS.out, ← cntK_all, LL.out]
            · by_cases e : i = k
              · subst e
                intro x hx
                rw [KS.out] at hx
                obtain ⟨r, hr, rfl⟩ := List.getElem_of_mem hx
                have := U2.out r (by rw [← LL.out]; exact hr)
                rwa [getD_elem ks 0 hr] at this
              · exact U.out i (by omega)
    · have : k = n := by omega
      subst this
      have HF : Hid (wr.rowIs w.heap.size 3 k (fun j => .int .i64 (f j))) := hF
      clear hF
      go_wp2
      go_loopg [56] k (fun g s56 w2 => ∃ q : Nat, q ≤ k ∧ k - q ≤ g ∧ s56 = .int .i64 q ∧ Below w.heap.size w w2 ∧ w2.rowIs w.heap.size 3 k (fun j => .int .i64 (f j)) ∧ Hid (∀ j, j < q → cntU S k j ≤ 1 ∧ ((nd S j).p ≠ -1 → cntU S k j ≠ 0)))
      case atStart => exact ⟨0, by omega, by omega, rfl, hb, HF.out, (show Hid _ from fun j hj => absurd hj (Nat.not_lt_zero _))⟩
      case round =>
        obtain ⟨q, hq, hg2, rfl, hb2, hF2, A2⟩ := hrel
        by_cases hql : q < k
        · obtain ⟨b, o, rfl, c0, c1, c2, c3, c4, ⟨ka, kc, c5, hks⟩, c6, c7⟩ := HS.out q (by rw [HN.out]; exact hql)
          have hbw : b < w.heap.size := World.block_lt_of_cell? w ⟨b, o + q * 8, none⟩ c0
          rw [← hb2.cell (by exact hbw)] at c0 c1 c2 c3 c4 c5 c6 c7
          have HF2 : Hid (wr.rowIs w.heap.size 3 k (fun j => .int .i64 (f j))) := hF2
          have cst := hF2.cell hql
          have hwr := hF2.lt
          have hv := A.out q hql
          rw [hv] at cst
          have BAD : Hid (¬ (cntU S k q ≤ 1 ∧ ((nd S q).p ≠ -1 → cntU S k q ≠ 0)) → (false = true ↔ KO)) := fun hnf => ⟨fun h => (by cases h), fun h => absurd ((HK.out.1 h).2 q hql) hnf⟩
          have STEP : Hid ((cntU S k q ≤ 1 ∧ ((nd S q).p ≠ -1 → cntU S k q ≠ 0)) → ∀ j, j < q + 1 → cntU S k j ≤ 1 ∧ ((nd S j).p ≠ -1 → cntU S k j ≠ 0)) := fun h j hj => by
            by_cases e : j = q
            · rw [e]; exact h
            · exact A2.out j (by omega)
          clear hF2 hks hv
          have hcell : wr.cell? ⟨w.heap.size, q, none⟩ = some (.int .i64 (cntU S k q : Int)) := cst
          clear cst
          generalize cntU S k q = vn at *
          generalize hvi : (vn : Int) = v at *
          have VI : Hid ((vn : Int) = v) := hvi
          clear hvi
          generalize (nd S q).p = pq at *
          by_cases h1 : 1 < v
          · have Z : Hid _ := BAD.out (fun h => by have := VI.out; omega)
            go_wp2
            go_ret
            exact ⟨false, rfl, hb2.alloc hb2.size _, Z.out⟩
          · by_cases h2 : pq = -1
            · subst h2
              have Z := STEP.out ⟨by have := VI.out; omega, fun h => absurd rfl h⟩
              have ZZ : Hid _ := Z
              clear Z
              go_wp2
              go_roundg (k - (q + 1))
              case measure => omega
              case rel => exact ⟨q + 1, by omega, by omega, by go_num, hb2.alloc hb2.size _, HF2.out.alloc _, ZZ⟩
            · have h21 : (pq == -1) = false := by simp [h2]
              have h22 : (pq != -1) = true := by simp [h2]
              by_cases h3 : v = 0
              · subst h3
                have Z : Hid _ := BAD.out (fun h => h.2 h2 (by have := VI.out; omega))
                go_wp2
                go_ret
                first
                  | exact ⟨false, rfl, hb2.alloc hb2.size _, Z.out⟩
                  | exact Or.inl ⟨rfl, hb2.alloc hb2.size _, fun h => by cases Z.out.2 h⟩
              · have ZZ : Hid _ := STEP.out ⟨by have := VI.out; omega, fun _ => by have := VI.out; omega⟩
                go_wp2
                go_roundg (k - (q + 1))
                case measure => omega
                case rel => exact ⟨q + 1, by omega, by omega, by go_num, hb2.alloc hb2.size _, HF2.out.alloc _, ZZ⟩
        · have : q = k := by omega
          subst this
          clear hF2
          go_wp2
          go_ret
          exact ⟨true, rfl, hb2, fun _ => HK.out.2 ⟨U.out, A2.out⟩, fun _ => rfl⟩

instance (S : List Nd) : Decidable (KidsOk S) := by unfold KidsOk FitU FitK; infer_instance

theorem kidsFit_b (a : Option Addr) (c : Nat) (S : List Nd) (w : World) (hN : S.length ≤ 24) (hB : Big S) (hP : ∀ i, i < S.length → ∀ x ∈ (nd S i).ks, -1 ≤ x ∧ x < S.length) (hS : NdsAt w a S) :
    Calls Tryz.prog 50 #[.slice a S.length c] w fun e w' => e = .returned (.bool (decide (KidsOk S))) ∧ Below w.heap.size w w' :=
  (kidsFit_any a c S w hN hB hP hS).mono (by
    rintro e w' ⟨r, rfl, hb, hr⟩
    refine ⟨?_, hb⟩
    congr 2
    cases r
    · exact (decide_eq_false (fun h => by cases hr.2 h)).symm
    · exact (decide_eq_true (hr.1 rfl)).symm)
end Go.Proofs.YtgjfmepbphfjoaaGreat

namespace Go.Proofs.YtgjfmepbphfjoaaGreat
open Go.RowKit

def HostK (S : List Nd) (i : Nat) : Prop := (nd S i).h ≠ -1 → (nd S (nd S i).h.toNat).u = true ∧ ∀ i', i' < i → (nd S i').h ≠ (nd S i).h
def HostU (S : List Nd) (k : Nat) : Prop := ∀ i, i < k → HostK S i

instance (S : List Nd) (k : Nat) : Decidable (HostU S k) := by unfold HostU HostK; infer_instance

set_option maxHeartbeats 4000000 in
theorem hostsFit_any (a : Option Addr) (c : Nat) (S : List Nd) (w : World) (hN : S.length ≤ 24) (hP : ∀ i, i < S.length → -1 ≤ (nd S i).h ∧ (nd S i).h < S.length) (hS : NdsAt w a S) :
    Calls Tryz.prog 51 #[.slice a S.length c] w fun e w' => e = .returned (.bool (decide (HostU S S.length))) ∧ Below w.heap.size w w' := by
  have HKt : Hid (HostU S S.length → decide (HostU S S.length) = true) := fun h => decide_eq_true h
  have HKf : Hid (¬ HostU S S.length → decide (HostU S S.length) = false) := fun h => decide_eq_false h
  generalize decide (HostU S S.length) = KO at *
  have HS : Hid (NdsAt w a S) := hS
  have HP : Hid (∀ i, i < S.length → -1 ≤ (nd S i).h ∧ (nd S i).h < S.length) := hP
  clear hS hP
  generalize hn : S.length = n at *
  have HN : Hid (S.length = n) := hn
  clear hn
  have hmk := makeInts n hN
  go_enter Tryz.func51, Tryz.ntmps51
  go_wp2
  go_loopg [11] n (fun g s11 wr => ∃ (k : Nat) (f : Nat → Int), k ≤ n ∧ n - k ≤ g ∧ s11 = .int .i64 k ∧ Below w.heap.size w wr ∧ wr.rowIs w.heap.size 3 n (fun j => .int .i64 (f j)) ∧ Hid (∀ j, j < n → (f j = 0 ∧ ∀ i, i < k → (nd S i).h ≠ j) ∨ (f j = 1 ∧ ∃ i, i < k ∧ (nd S i).h = j)) ∧ Hid (HostU S k))
  case atStart =>
    exact ⟨0, fun _ => 0, by omega, by omega, rfl, (Below.refl _ _).alloc (Nat.le_refl _) _, World.rowIs_made _ _ _ _, (show Hid _ from fun j _ => Or.inl ⟨rfl, fun i hi => absurd hi (Nat.not_lt_zero _)⟩), (show Hid _ from fun i hi => absurd hi (Nat.not_lt_zero _))⟩
  case round =>
    obtain ⟨k, f, hk, hg, rfl, hb, hF, A, U⟩ := hrel
    by_cases hlt : k < n
    · obtain ⟨b, o, rfl, c0, c1, c2, c3, c4, ⟨ka, kc, c5, hks⟩, c6, c7⟩ := HS.out k (by rw [HN.out]; exact hlt)
      have hbw : b < w.heap.size := World.block_lt_of_cell? w ⟨b, o + k * 8, none⟩ c0
      rw [← hb.cell (by exact hbw)] at c0 c1 c2 c3 c4 c5 c6 c7
      have HF : Hid (wr.rowIs w.heap.size 3 n (fun j => .int .i64 (f j))) := hF
      have hwr := hF.lt
      obtain ⟨hh1, hh2⟩ := HP.out k hlt
      have STEP : Hid (HostK S k → HostU S (k + 1)) := fun h i hi => by
        by_cases e : i = k
        · rw [e]; exact h
        · exact U.out i (by omega)
      have BAD : Hid (¬ HostK S k → KO = false) := fun h => HKf.out (fun hu => h (hu k hlt))
      clear hks
      generalize hh : (nd S k).h = y at *
      have HH : Hid ((nd S k).h = y) := hh
      clear hh
      by_cases hy : y = -1
      · subst hy
        clear hF
        go_wp2
        go_roundg (n - (k + 1))
        case measure => omega
        case rel =>
          refine ⟨k + 1, f, by omega, by omega, by go_num, hb.alloc hb.size _, HF.out.alloc _, (show Hid _ from fun j hj => ?_), STEP.out (fun h => absurd HH.out h)⟩
          rcases A.out j hj with ⟨h0, h1⟩ | ⟨h0, i, hi, h1⟩
          · refine Or.inl ⟨h0, fun i hi => ?_⟩
            by_cases e : i = k
            · rw [e, HH.out]; omega
            · exact h1 i (by omega)
          · exact Or.inr ⟨h0, i, by omega, h1⟩
      · obtain ⟨j, rfl⟩ : ∃ j : Nat, y = (j : Int) := ⟨y.toNat, by omega⟩
        have hj : j < n := by omega
        obtain ⟨b', o', e', d0, _⟩ := HS.out j (by rw [HN.out]; exact hj)
        cases e'
        rw [← hb.cell (by exact hbw)] at d0
        have cst := hF.cell hj
        have hfz := hF.frozen
        have hv := A.out j hj
        have hy1 : ((j : Int) == -1) = false := by simp [hy]
        generalize hfj : f j = v at *
        have FJ : Hid (f j = v) := hfj
        have AV : Hid ((v = 0 ∧ ∀ i, i < k → (nd S i).h ≠ j) ∨ (v = 1 ∧ ∃ i, i < k ∧ (nd S i).h = j)) := hv
        have hv0 : 0 ≤ v := by omega
        have hv1 : v ≤ 1 := by omega
        clear hfj hv
        have d1 : ∀ v o1, ((wr.setCell ⟨w.heap.size, j, none⟩ v).alloc o1).cell? ⟨b, o + j * 8, none⟩ = some (.bool (nd S j).u) := fun v o1 => ((((Below.refl w.heap.size wr).setCell (Nat.le_refl _) v).alloc (by have := hF.lt; simp [World.setCell]; omega) o1).cell (by exact hbw)).trans d0
        clear hF
        cases hu : (nd S j).u with
        | false =>
          rw [hu] at d0 d1
          have Z : Hid _ := BAD.out (fun h => by have := (h (by rw [HH.out]; omega)).1; rw [HH.out] at this; simp [hu] at this)
          clear hu
          go_wp2
          go_ret
          exact ⟨by rw [Z.out]; rfl, (hb.setCell (Nat.le_refl _) _).alloc (by simpa using hb.size) _⟩
        | true =>
          rw [hu] at d0 d1
          by_cases hv : v = 0
          · subst hv
            have HK : Hid (HostK S k) := fun _ => ⟨by rw [HH.out]; simpa using hu, fun i hi => by
              rw [HH.out]
              rcases AV.out with ⟨_, h⟩ | ⟨h, _⟩
              · exact h i hi
              · omega⟩
            clear hu
            go_wp2
            go_roundg (n - (k + 1))
            case measure => omega
            case rel =>
              refine ⟨k + 1, fun i => if i = j then 1 else f i, by omega, by omega, by go_num, ?_, ?_, (show Hid _ from fun i hi => ?_), STEP.out HK.out⟩
              · exact (hb.setCell (Nat.le_refl _) _).alloc (by simpa using hb.size) _
              · refine ((HF.out.set j _).alloc _).congr (fun i _ => ?_)
                dsimp only
                by_cases e : i = j
                · rw [if_pos e, if_pos e]
                · rw [if_neg e, if_neg e]
              · dsimp only
                by_cases e : i = j
                · rw [if_pos e]
                  exact Or.inr ⟨rfl, k, by omega, by rw [HH.out, e]⟩
                · rw [if_neg e]
                  rcases A.out i hi with ⟨h0, h1⟩ | ⟨h0, r, hr, h1⟩
                  · refine Or.inl ⟨h0, fun r hr => ?_⟩
                    by_cases e2 : r = k
                    · rw [e2, HH.out]; omega
                    · exact h1 r (by omega)
                  · exact Or.inr ⟨h0, r, by omega, h1⟩
          · have hv : v = 1 := by omega
            subst hv
            have Z : Hid _ := BAD.out (fun h => by
              rcases AV.out with ⟨h0, _⟩ | ⟨_, r, hr, h1⟩
              · omega
              · exact (h (by rw [HH.out]; omega)).2 r hr (by rw [HH.out]; exact h1))
            clear hu
            go_wp2
            go_ret
            exact ⟨by rw [Z.out]; rfl, (hb.setCell (Nat.le_refl _) _).alloc (by simpa using hb.size) _⟩
    · have : k = n := by omega
      subst this
      clear hF
      go_wp2
      go_ret
      exact ⟨by rw [HKt.out U.out]; rfl, hb⟩
end Go.Proofs.YtgjfmepbphfjoaaGreat
