/-
  The reference's CheckHearers.
-/
import Derived.Test.YtplkfacaphejgaaULoHaSe
import Derived.Test.YtplkfacaphejgaaUSf
namespace Go.Proofs.Ytplkfacaphejgaa
open Go.RowKit Go.ChangeShapes Go.WideShapes
set_option linter.unusedVariables false

theorem marks_congr {w : World} {b n : Nat} {f g : Int → Bool} (h : MarksAt w b n f) (e : ∀ k, f k = g k) : MarksAt w b n g := by
  have : f = g := funext e
  rw [← this]
  exact h

set_option maxHeartbeats 400000 in
theorem rbelow_any (x m : Int) (w : World) :
    Calls Try.prog 25 #[.int .i64 x, .int .i64 m] w fun e w' => e = .returned (.bool (decide (¬ (x < 0 ∨ m ≤ x)))) ∧ w' = w := by
  by_cases h1 : 0 ≤ x
  · have d1 : decide (0 ≤ x) = true := decide_eq_true h1
    by_cases h2 : x < m
    · have d2 : decide (x < m) = true := decide_eq_true h2
      have HR : Hid (decide (¬ (x < 0 ∨ m ≤ x)) = true) := decide_eq_true (by omega)
      clear h1 h2
      go_enter Try.func25, Try.ntmps25
      go_wp2_with fail
      go_ret
      exact ⟨by rw [HR.out]; rfl, rfl⟩
    · have d2 : decide (x < m) = false := decide_eq_false h2
      have HR : Hid (decide (¬ (x < 0 ∨ m ≤ x)) = false) := decide_eq_false (by omega)
      clear h1 h2
      go_enter Try.func25, Try.ntmps25
      go_wp2_with fail
      go_ret
      exact ⟨by rw [HR.out]; rfl, rfl⟩
  · have d1 : decide (0 ≤ x) = false := decide_eq_false h1
    have HR : Hid (decide (¬ (x < 0 ∨ m ≤ x)) = false) := decide_eq_false (by omega)
    clear h1
    go_enter Try.func25, Try.ntmps25
    go_wp2_with fail
    go_ret
    exact ⟨by rw [HR.out]; rfl, rfl⟩

set_option maxRecDepth 100000 in
set_option maxHeartbeats 2000000 in
theorem rhcheck_any (a : Option Addr) (c : Nat) (L : List Hr) (N : Int) (w : World) (hN : L.length ≤ 9223372036854775807) (hB : BigH L) (hL : HrsAt w a L) :
    Calls Try.prog 8 #[.slice a L.length c, .int .i64 N] w fun e w' => e = .returned (.int .i64 (hcheckE L N)) ∧ Below w.heap.size w w' := by
  by_cases hm : 24 < L.length
  · have e : hcheckE L N = 1 := by unfold hcheckE; rw [if_pos hm]
    rw [e]
    have hm2 : decide ((24 : Int) < (L.length : Int)) = true := decide_eq_true (by omega)
    clear hB hL e
    generalize L.length = n at *
    go_enter Try.func8, Try.ntmps8
    go_wp2_with fail
    go_ret
    exact ⟨rfl, Below.refl _ _⟩
  · have e : hcheckE L N = hErr N L 0 := by unfold hcheckE; rw [if_neg hm]
    rw [e]
    have HL : Hid (HrsAt w a L) := hL
    have HBG : Hid (BigH L) := hB
    have hm2 : decide ((24 : Int) < (L.length : Int)) = false := decide_eq_false (by omega)
    have ST : Hid (∀ i, i < L.length → hErr N L i = if (hr L i).pl < 0 ∨ N ≤ (hr L i).pl then 4 else if (hr L i).id ∈ idsF L i then 3 else hErr N L (i + 1)) := fun i hi => hErr_step hi
    have IS : Hid (∀ i, i < L.length → idsF L (i + 1) = idsF L i ++ [(hr L i).id]) := fun i hi => ids_step hi
    have EN : Hid (hErr N L L.length = 0) := hErr_end (Nat.le_refl _)
    have M0 : Hid (MarksAt (w.alloc (.map #[] 0)) w.heap.size 0 (fun x => decide (x ∈ idsF L 0))) := marks_congr (MarksAt.made w) (fun k => by simp [idsF])
    have DB : Hid (∀ x W, Calls _ _ _ _ _) := fun x W => rbelow_any x N W
    have hmm := @run_makeMap Try.prog
    clear hB hL e
    obtain ⟨E, hE⟩ : ∃ E, hErr N L 0 = E := ⟨_, rfl⟩
    have HE : Hid (hErr N L 0 = E) := hE
    rw [hE]
    clear hE
    obtain ⟨n, hn⟩ : ∃ n, L.length = n := ⟨_, rfl⟩
    have HN : Hid (L.length = n) := hn
    rw [hn] at hN hm hm2 ST IS EN ⊢
    clear hn
    go_enter Try.func8, Try.ntmps8
    go_wp2_with fail
    go_loopg [14] n (fun g s14 wr => ∃ i : Nat, i ≤ n ∧ n - i ≤ g ∧ s14 = .int .i64 i ∧ Hid (Below w.heap.size w wr) ∧ w.heap.size < wr.heap.size ∧ Hid (MarksAt wr w.heap.size i (fun x => decide (x ∈ idsF L i))) ∧ Hid (hErr N L i = E))
    case atStart => exact ⟨0, by omega, by omega, rfl, one_belowS _ _, by simp, M0, HE⟩
    case round =>
      obtain ⟨i, hi, hg, rfl, HBr, hsz, MK, HEi⟩ := hrel
      clear M0 HE
      by_cases hlt : i < n
      · have hlt2 : (i : Int) < (n : Int) := by omega
        obtain ⟨b, o, ea, c0, c1, c2, c3, c4⟩ := (HL.out.below HBr.out) i (by rw [HN.out]; exact hlt)
        subst ea
        have hwf := HBG.out i (by rw [HN.out]; exact hlt)
        have STi : Hid _ := (ST.out i hlt).symm.trans HEi.out
        have ISi : Hid _ := IS.out i hlt
        have q0 := World.block_lt_of_cell? _ _ c0
        generalize hr L i = x at *
        obtain ⟨xp, xd, xo, xs, xi⟩ := x
        dsimp only at c0 c1 c2 c3 c4 hwf STi ISi
        have HBA : Hid (∀ o1, Below w.heap.size w (wr.alloc o1)) := fun o1 => HBr.out.trans ((one_belowS wr o1).mono HBr.out.size)
        by_cases hp : xp < 0 ∨ N ≤ xp
        · have DBi := DB.out xp
          have d1 : decide (¬ (xp < 0 ∨ N ≤ xp)) = false := decide_eq_false (fun h => h hp)
          rw [d1] at DBi
          have DBx : Hid _ := DBi
          have HEE : Hid (4 = E) := by have h := STi.out; rwa [if_pos hp] at h
          clear STi hp d1 DBi
          go_wp2_with fail
          refine Calls.mono (DBx.out _) ?_
          rintro e w5 ⟨rfl, rfl⟩
          go_wp2_with fail
          go_ret
          exact ⟨by rw [HEE.out]; rfl, HBA.out _⟩
        · have DBi := DB.out xp
          have d1 : decide (¬ (xp < 0 ∨ N ≤ xp)) = true := decide_eq_true hp
          rw [d1] at DBi
          have DBx : Hid _ := DBi
          clear DBi d1
          have hlook : ∀ o1, (Instr.lookup 62 (.map (some w.heap.size)) (.int .i64 xi) false).run Try.prog (wr.alloc o1) = .ok (.bool (decide (xi ∈ idsF L i))) (wr.alloc o1) := fun o1 => (MK.out.kept ((one_belowS wr o1).block _ hsz)).look (t := 62) Try.underlying62 hwf
          by_cases hm3 : xi ∈ idsF L i
          · have HEE : Hid (3 = E) := by have h := STi.out; rwa [if_neg hp, if_pos hm3] at h
            rw [decide_eq_true hm3] at hlook
            clear STi hm3 hp
            go_wp2_with fail
            refine Calls.mono (DBx.out _) ?_
            rintro e w5 ⟨rfl, rfl⟩
            go_wp2_with fail
            go_ret
            exact ⟨by rw [HEE.out]; rfl, HBA.out _⟩
          · have HEE : Hid (hErr N L (i + 1) = E) := by have h := STi.out; rwa [if_neg hp, if_neg hm3] at h
            rw [decide_eq_false hm3] at hlook
            clear STi hm3 hp
            obtain ⟨W2, hW2⟩ : ∃ W2, wr.alloc (.cells #[.int .i64 xp, .bool xd, .bool xo, .bool xs, .int .i64 xi] 39) = W2 := ⟨_, rfl⟩
            have mk2 : MarksAt W2 w.heap.size i (fun x => decide (x ∈ idsF L i)) := by rw [← hW2]; exact MK.out.kept ((one_belowS wr _).block _ hsz)
            have hb2 : Below w.heap.size w W2 := by rw [← hW2]; exact HBA.out _
            have hs2 : wr.heap.size ≤ W2.heap.size := by rw [← hW2]; simp
            obtain ⟨w3, hput, mk3, gr3⟩ := mk2.put (t := 62) Try.underlying62 (by unfold maxLen; omega) hwf true
            rw [← hW2] at hput
            have MK3 : Hid (MarksAt w3 w.heap.size (i + 1) (fun x => decide (x ∈ idsF L (i + 1)))) := by
              refine marks_congr mk3 (fun k => ?_)
              rw [ISi.out]
              by_cases e : k = xi
              · simp [e]
              · simp [e]
            have HB3 : Hid (Below w.heap.size w w3) := hb2.grown gr3 hb2.size (fun k hk => by cases hk; exact Nat.le_refl _)
            have hs3 : w.heap.size < w3.heap.size := by have := gr3.size; omega
            clear mk2 mk3 gr3 hb2 hs2 hW2 MK
            go_wp2_with fail
            refine Calls.mono (DBx.out _) ?_
            rintro e w5 ⟨rfl, rfl⟩
            go_wp2_with fail
            go_roundg (n - (i + 1))
            case measure => omega
            case rel => exact ⟨i + 1, by omega, by omega, by go_num, HB3, hs3, MK3, HEE⟩
      · have hie : i = n := by omega
        subst hie
        have HEE : Hid ((0 : Int) = E) := EN.out.symm.trans HEi.out
        clear MK HEi
        go_wp2_with fail
        go_ret
        exact ⟨by rw [HEE.out]; rfl, HBr.out⟩
end Go.Proofs.Ytplkfacaphejgaa

namespace Go.Proofs.Ytplkfacaphejgaa
open Go.RowKit

def HostK (S : List Nd) (i : Nat) : Prop := (nd S i).h ≠ -1 → (nd S (nd S i).h.toNat).u = true ∧ ∀ i', i' < i → (nd S i').h ≠ (nd S i).h
def HostU (S : List Nd) (k : Nat) : Prop := ∀ i, i < k → HostK S i

instance (S : List Nd) (k : Nat) : Decidable (HostU S k) := by unfold HostU HostK; infer_instance

set_option maxHeartbeats 4000000 in
theorem hostsFit_any (a : Option Addr) (c : Nat) (S : List Nd) (w : World) (hN : S.length ≤ 24) (hP : ∀ i, i < S.length → -1 ≤ (nd S i).h ∧ (nd S i).h < S.length) (hS : NdsAt w a S) :
    Calls Try.prog 69 #[.slice a S.length c] w fun e w' => e = .returned (.bool (decide (HostU S S.length))) ∧ Below w.heap.size w w' := by
  have HKt : Hid (HostU S S.length → decide (HostU S S.length) = true) := fun h => decide_eq_true h
  have HKf : Hid (¬ HostU S S.length → decide (HostU S S.length) = false) := fun h => decide_eq_false h
  generalize decide (HostU S S.length) = KO at *
  have HS : Hid (NdsAt w a S) := hS
  have HP : Hid (∀ i, i < S.length → -1 ≤ (nd S i).h ∧ (nd S i).h < S.length) := hP
  clear hS hP
  generalize hn : S.length = n at *
  have HN : Hid (S.length = n) := hn
  clear hn
  have hmk := makeInts n hN
  go_enter Try.func69, Try.ntmps69
  go_wp2
  go_loopg [11] n (fun g s11 wr => ∃ (k : Nat) (f : Nat → Int), k ≤ n ∧ n - k ≤ g ∧ s11 = .int .i64 k ∧ Below w.heap.size w wr ∧ wr.rowIs w.heap.size 3 n (fun j => .int .i64 (f j)) ∧ Hid (∀ j, j < n → (f j = 0 ∧ ∀ i, i < k → (nd S i).h ≠ j) ∨ (f j = 1 ∧ ∃ i, i < k ∧ (nd S i).h = j)) ∧ Hid (HostU S k))
  case atStart =>
    exact ⟨0, fun _ => 0, by omega, by omega, rfl, (Below.refl _ _).alloc (Nat.le_refl _) _, World.rowIs_made _ _ _ _, (show Hid _ from fun j _ => Or.inl ⟨rfl, fun i hi => absurd hi (Nat.not_lt_zero _)⟩), (show Hid _ from fun i hi => absurd hi (Nat.not_lt_zero _))⟩
  case round =>
    obtain ⟨k, f, hk, hg, rfl, hb, hF, A, U⟩ := hrel
    by_cases hlt : k < n
    · obtain ⟨b, o, rfl, c0, c1, c2, c3, c4, ⟨ka, kc, c5, hks⟩, c6, c7⟩ := HS.out k (by rw [HN.out]; exact hlt)
      have hbw : b < w.heap.size := World.block_lt_of_cell? w ⟨b, o + k * 8, none⟩ c0
      rw [← hb.cell (by exact hbw)] at c0 c1 c2 c3 c4 c5 c6 c7
      have HF : Hid (wr.rowIs w.heap.size 3 n (fun j => .int .i64 (f j))) := hF
      have hwr := hF.lt
      obtain ⟨hh1, hh2⟩ := HP.out k hlt
      have STEP : Hid (HostK S k → HostU S (k + 1)) := fun h i hi => by
        by_cases e : i = k
        · rw [e]; exact h
        · exact U.out i (by omega)
      have BAD : Hid (¬ HostK S k → KO = false) := fun h => HKf.out (fun hu => h (hu k hlt))
      clear hks
      generalize hh : (nd S k).h = y at *
      have HH : Hid ((nd S k).h = y) := hh
      clear hh
      by_cases hy : y = -1
      · subst hy
        clear hF
        go_wp2
        go_roundg (n - (k + 1))
        case measure => omega
        case rel =>
          refine ⟨k + 1, f, by omega, by omega, by go_num, hb.alloc hb.size _, HF.out.alloc _, (show Hid _ from fun j hj => ?_), STEP.out (fun h => absurd HH.out h)⟩
          rcases A.out j hj with ⟨h0, h1⟩ | ⟨h0, i, hi, h1⟩
          · refine Or.inl ⟨h0, fun i hi => ?_⟩
            by_cases e : i = k
            · rw [e, HH.out]; omega
            · exact h1 i (by omega)
          · exact Or.inr ⟨h0, i, by omega, h1⟩
      · obtain ⟨j, rfl⟩ : ∃ j : Nat, y = (j : Int) := ⟨y.toNat, by omega⟩
        have hj : j < n := by omega
        obtain ⟨b', o', e', d0, _⟩ := HS.out j (by rw [HN.out]; exact hj)
        cases e'
        rw [← hb.cell (by exact hbw)] at d0
        have cst := hF.cell hj
        have hfz := hF.frozen
        have hv := A.out j hj
        have hy1 : ((j : Int) == -1) = false := by simp [hy]
        generalize hfj : f j = v at *
        have FJ : Hid (f j = v) := hfj
        have AV : Hid ((v = 0 ∧ ∀ i, i < k → (nd S i).h ≠ j) ∨ (v = 1 ∧ ∃ i, i < k ∧ (nd S i).h = j)) := hv
        have hv0 : 0 ≤ v := by omega
        have hv1 : v ≤ 1 := by omega
        clear hfj hv
        have d1 : ∀ v o1, ((wr.setCell ⟨w.heap.size, j, none⟩ v).alloc o1).cell? ⟨b, o + j * 8, none⟩ = some (.bool (nd S j).u) := fun v o1 => ((((Below.refl w.heap.size wr).setCell (Nat.le_refl _) v).alloc (by have := hF.lt; simp [World.setCell]; omega) o1).cell (by exact hbw)).trans d0
        clear hF
        cases hu : (nd S j).u with
        | false =>
          rw [hu] at d0 d1
          have Z : Hid _ := BAD.out (fun h => by have := (h (by rw [HH.out]; omega)).1; rw [HH.out] at this; simp [hu] at this)
          clear hu
          go_wp2
          go_ret
          exact ⟨by rw [Z.out]; rfl, (hb.setCell (Nat.le_refl _) _).alloc (by simpa using hb.size) _⟩
        | true =>
          rw [hu] at d0 d1
          by_cases hv : v = 0
          · subst hv
            have HK : Hid (HostK S k) := fun _ => ⟨by rw [HH.out]; simpa using hu, fun i hi => by
              rw [HH.out]
              rcases AV.out with ⟨_, h⟩ | ⟨h, _⟩
              · exact h i hi
              · omega⟩
            clear hu
            go_wp2
            go_roundg (n - (k + 1))
            case measure => omega
            case rel =>
              refine ⟨k + 1, fun i => if i = j then 1 else f i, by omega, by omega, by go_num, ?_, ?_, (show Hid _ from fun i hi => ?_), STEP.out HK.out⟩
              · exact (hb.setCell (Nat.le_refl _) _).alloc (by simpa using hb.size) _
              · refine ((HF.out.set j _).alloc _).congr (fun i _ => ?_)
                dsimp only
                by_cases e : i = j
                · rw [if_pos e, if_pos e]
                · rw [if_neg e, if_neg e]
              · dsimp only
                by_cases e : i = j
                · rw [if_pos e]
                  exact Or.inr ⟨rfl, k, by omega, by rw [HH.out, e]⟩
                · rw [if_neg e]
                  rcases A.out i hi with ⟨h0, h1⟩ | ⟨h0, r, hr, h1⟩
                  · refine Or.inl ⟨h0, fun r hr => ?_⟩
                    by_cases e2 : r = k
                    · rw [e2, HH.out]; omega
                    · exact h1 r (by omega)
                  · exact Or.inr ⟨h0, r, by omega, h1⟩
          · have hv : v = 1 := by omega
            subst hv
            have Z : Hid _ := BAD.out (fun h => by
              rcases AV.out with ⟨h0, _⟩ | ⟨_, r, hr, h1⟩
              · omega
              · exact (h (by rw [HH.out]; omega)).2 r hr (by rw [HH.out]; exact h1))
            clear hu
            go_wp2
            go_ret
            exact ⟨by rw [Z.out]; rfl, (hb.setCell (Nat.le_refl _) _).alloc (by simpa using hb.size) _⟩
    · have : k = n := by omega
      subst this
      clear hF
      go_wp2
      go_ret
      exact ⟨by rw [HKt.out U.out]; rfl, hb⟩
end Go.Proofs.Ytplkfacaphejgaa
