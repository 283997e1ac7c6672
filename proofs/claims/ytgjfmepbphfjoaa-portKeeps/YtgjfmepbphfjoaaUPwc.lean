/-
  What is wrong with ports: port.Check and what it asks; checkHeld, checkOwner.
-/
import Derived.Test.YtgjfmepbphfjoaaUPx
import Derived.Test.YtgjfmepbphfjoaaUPf
import Derived.BigQuiet
namespace Go.Proofs.Ytgjfmepbphfjoaa
open Go.RowKit Go.ChangeShapes Go.WideShapes
set_option linter.unusedVariables false

set_option maxHeartbeats 400000 in
theorem isFrame_anyPwc (x m : Int) (w : World) :
    Calls Try.prog 47 #[.int .i64 x, .int .i64 m] w fun e w' => e = .returned (.bool (decide (0 ≤ x ∧ x < m))) ∧ w' = w := by
  by_cases h1 : 0 ≤ x
  · have d1 : decide (0 ≤ x) = true := decide_eq_true h1
    by_cases h2 : x < m
    · have d2 : decide (x < m) = true := decide_eq_true h2
      rw [decide_eq_true (⟨h1, h2⟩ : 0 ≤ x ∧ x < m)]
      go_enter Try.func47, Try.ntmps47
      go_wp2
      go_ret
      exact ⟨rfl, rfl⟩
    · have d2 : decide (x < m) = false := decide_eq_false h2
      rw [decide_eq_false (fun h => h2 h.2 : ¬ (0 ≤ x ∧ x < m))]
      go_enter Try.func47, Try.ntmps47
      go_wp2
      go_ret
      exact ⟨rfl, rfl⟩
  · have d1 : decide (0 ≤ x) = false := decide_eq_false h1
    rw [decide_eq_false (fun h => h1 h.1 : ¬ (0 ≤ x ∧ x < m))]
    go_enter Try.func47, Try.ntmps47
    go_wp2
    go_ret
    exact ⟨rfl, rfl⟩

set_option maxHeartbeats 400000 in
theorem isPort_any (a : Option Addr) (n c : Nat) (k : Int) (w : World) (hn : n ≤ 1000) :
    Calls Try.prog 53 #[.slice a n c, .int .i64 k] w fun e w' => e = .returned (.bool (decide (0 ≤ k ∧ k ≤ (n : Int) - 1))) ∧ w' = w := by
  obtain ⟨Q, hQ⟩ : ∃ Q : Int, (n : Int) - 1 = Q := ⟨_, rfl⟩
  have hwr : IntKind.i64.wrap ((n : Int) - 1) = Q := by rw [IntKind.wrap_i64, ← hQ]; omega
  have hw := fun W => within_any k 0 Q W
  rw [hQ]
  clear hQ
  generalize decide (0 ≤ k ∧ k ≤ Q) = r at hw ⊢
  have HW : Hid _ := hw
  clear hw
  go_enter Try.func53, Try.ntmps53
  go_wp2_with (go_at_call 59; refine (HW.out _).mono ?_; rintro e w' ⟨rfl, rfl⟩)
  go_ret
  exact ⟨rfl, rfl⟩

set_option maxHeartbeats 400000 in
theorem turnFits_any (k : Int) (w : World) :
    Calls Try.prog 48 #[.int .i64 k] w fun e w' => e = .returned (.bool (decide (0 ≤ k ∧ k ≤ 1000))) ∧ w' = w := by
  have hw := fun W => within_any k 0 1000 W
  generalize decide (0 ≤ k ∧ k ≤ 1000) = r at hw ⊢
  have HW : Hid _ := hw
  clear hw
  go_enter Try.func48, Try.ntmps48
  go_wp2_with (go_at_call 59; refine (HW.out _).mono ?_; rintro e w' ⟨rfl, rfl⟩)
  go_ret
  exact ⟨rfl, rfl⟩

/-- What is wrong with what came. -/
def cameE (l : Nat) (s : Bool) (G : Int) : Int := if 16 < l ∨ (0 < l ∧ s = true) then 1 else G

set_option maxRecDepth 100000 in
set_option maxHeartbeats 4000000 in
theorem checkCame_any (x : Pt) (ca : Option Addr) (cc : Nat) (w : World) (hbig : x.cm.length ≤ 9223372036854775807) (hB : BigG x.cm) (hg : GrsAt w ca x.cm) :
    Calls Try.prog 58 #[.agg #[.int .i64 x.o, .int .i64 x.t, .int .i64 x.m, .slice ca x.cm.length cc, .bool x.s]] w fun e w' => e = .returned (.int .i64 (cameE x.cm.length x.s (graphsE x.cm))) ∧ Below w.heap.size w w' := by
  have HG : Hid (GrsAt w ca x.cm) := hg
  have BG : Hid (BigG x.cm) := hB
  have GS : Hid (∀ j, j < x.cm.length → graphsE (x.cm.drop j) = if gcheckE (gr x.cm j) = 0 then graphsE (x.cm.drop (j + 1)) else gcheckE (gr x.cm j)) := fun j hj => graphs_step hj
  have GN : Hid (graphsE (x.cm.drop x.cm.length) = 0) := graphs_end _
  have G0 : Hid (graphsE (x.cm.drop 0) = graphsE x.cm) := by show graphsE _ = _; rw [List.drop_zero]
  clear hg hB
  obtain ⟨xo, xt, xm, C, xs⟩ := x
  dsimp only at *
  obtain ⟨cl, hcl⟩ : ∃ z, C.length = z := ⟨_, rfl⟩
  have HC : Hid (C.length = cl) := hcl
  rw [hcl] at hbig GS GN ⊢
  clear hcl
  unfold cameE
  by_cases h16 : 16 < cl
  · rw [if_pos (Or.inl h16)]
    have g1 : decide ((16 : Int) < (cl : Int)) = true := decide_eq_true (by omega)
    clear HG BG GS GN G0
    go_enter Try.func58, Try.ntmps58
    go_wp2_with fail
    go_ret
    exact ⟨rfl, one_belowS _ _⟩
  · have g1 : decide ((16 : Int) < (cl : Int)) = false := decide_eq_false (by omega)
    have LOOP : Hid (∀ (GE : Int), graphsE C = GE → (cl = 0 ∨ xs = false) → Calls Try.prog 58 #[.agg #[.int .i64 xo, .int .i64 xt, .int .i64 xm, .slice ca cl cc, .bool xs]] w fun e w' => e = .returned (.int .i64 GE) ∧ Below w.heap.size w w') := fun GE hGE hor => by
      rw [hGE] at G0
      clear hGE
      by_cases h0 : 0 < cl
      · have hxs : xs = false := by rcases hor with h | h; omega; exact h
        subst hxs
        have g2 : decide ((0 : Int) < (cl : Int)) = true := decide_eq_true (by omega)
        clear hor
        go_enter Try.func58, Try.ntmps58
        go_wp2_with fail
        go_loopg [23] cl (fun g s23 wr => ∃ j : Nat, j ≤ cl ∧ cl - j ≤ g ∧ s23 = .int .i64 j ∧ Hid (Below w.heap.size w wr) ∧ Hid (graphsE (C.drop j) = GE))
        case atStart => exact ⟨0, by omega, by omega, rfl, one_belowS _ _, G0⟩
        case round =>
          obtain ⟨j, hj, hgj, rfl, HBj, HGj⟩ := hrel
          clear G0
          by_cases hlt : j < cl
          · have hlt2 : (j : Int) < (cl : Int) := by omega
            obtain ⟨b, o, ga, gc, ea, c0, hcl⟩ := (HG.out.below HBj.out) j (by rw [HC.out]; exact hlt)
            subst ea
            have hbb : b < wr.heap.size := World.block_lt_of_cell? _ _ c0
            obtain ⟨bg1, bg2⟩ := BG.out j (by rw [HC.out]; exact hlt)
            have D1 : Hid (∀ o1 : Obj, _) := fun o1 => gcheck_any ga gc (gr C j) (wr.alloc o1) bg1 bg2 (hcl.below (one_belowS _ _))
            have STj := (GS.out j hlt).symm.trans HGj.out
            have HST : Hid _ := STj
            clear hcl bg2 STj HGj
            generalize gr C j = G at *
            generalize gcheckE G = E at *
            generalize G.length = gl at *
            go_wp2_with fail
            refine Calls.mono (D1.out _) ?_
            rintro e w1 ⟨rfl, hb1⟩
            have HB1 : Hid (Below w.heap.size w w1) := HBj.out.trans (((one_belowS _ _).trans (hb1.mono (by simp))).mono HBj.out.size)
            clear hb1 D1
            by_cases hE : E = 0
            · have HG1 : Hid (graphsE (C.drop (j + 1)) = GE) := by have := HST.out; rw [if_pos hE] at this; exact this
              subst hE
              clear HST
              go_wp2_with fail
              go_roundg (cl - (j + 1))
              case measure => omega
              case rel => exact ⟨j + 1, by omega, by omega, by go_num, HB1, HG1⟩
            · have HG1 : Hid (E = GE) := by have := HST.out; rw [if_neg hE] at this; exact this
              have y1 : decide (E = 0) = false := decide_eq_false hE
              have y2 : (E == 0) = false := by simp [hE]
              clear HST
              go_wp2_with fail
              go_ret
              exact ⟨by rw [HG1.out]; rfl, HB1.out⟩
          · have e : j = cl := by omega
            have HGE : Hid (0 = GE) := by have := HGj.out; rw [e, GN.out] at this; exact this
            have hlt3 : decide ((j : Int) < (cl : Int)) = false := decide_eq_false (by omega)
            clear HGj e
            go_wp2_with fail
            go_ret
            exact ⟨by rw [HGE.out]; rfl, HBj.out⟩
      · have hz : cl = 0 := by omega
        subst hz
        have HGE : Hid (0 = GE) := by have h1 := G0.out; have h2 := GN.out; show _ = _; rw [← h1, ← h2]
        clear hor GS GN G0 HG BG
        go_enter Try.func58, Try.ntmps58
        go_wp2_with fail
        go_loopg [23] 0 (fun g s23 wr => s23 = .int .i64 0 ∧ Hid (Below w.heap.size w wr))
        case atStart => exact ⟨rfl, one_belowS _ _⟩
        case round =>
          obtain ⟨rfl, HBj⟩ := hrel
          go_wp2_with fail
          go_ret
          exact ⟨by rw [HGE.out]; rfl, HBj.out⟩
    by_cases h0 : 0 < cl
    · cases xs
      · rw [if_neg (fun h => by rcases h with h | h; omega; cases h.2)]
        exact LOOP.out _ rfl (Or.inr rfl)
      · rw [if_pos (Or.inr ⟨h0, rfl⟩)]
        have g2 : decide ((0 : Int) < (cl : Int)) = true := decide_eq_true (by omega)
        clear HG BG GS GN G0 LOOP
        go_enter Try.func58, Try.ntmps58
        go_wp2_with fail
        go_ret
        exact ⟨rfl, one_belowS _ _⟩
    · rw [if_neg (fun h => by rcases h with h | h; omega; omega)]
      exact LOOP.out _ rfl (Or.inl (by omega))

set_option maxHeartbeats 1000000 in
theorem checkOwner_any (Fr o t : Int) (w : World) :
    Calls Try.prog 24 #[.int .i64 Fr, .int .i64 o, .int .i64 t] w fun e w' => e = .returned (.int .i64 (passE2 Fr o t)) ∧ w' = w := by
  have DB : Hid (∀ W, _) := fun W => isFrame_anyPwc o Fr W
  have DI : Hid (∀ W, _) := fun W => turnFits_any t W
  unfold passE2
  by_cases e1 : 0 ≤ o ∧ o < Fr
  · rw [decide_eq_true e1] at DB
    rw [if_neg (not_not_intro e1)]
    by_cases e2 : 0 ≤ t ∧ t ≤ 1000
    · rw [decide_eq_true e2] at DI
      rw [if_neg (not_not_intro e2)]
      clear e1 e2
      go_enter Try.func24, Try.ntmps24
      go_wp2_with fail
      refine Calls.mono (DB.out _) ?_
      rintro e w2 ⟨rfl, hw2⟩
      subst hw2
      go_wp2_with fail
      refine Calls.mono (DI.out _) ?_
      rintro e w3 ⟨rfl, hw3⟩
      subst hw3
      go_wp2_with fail
      go_ret
      exact ⟨rfl, rfl⟩
    · rw [decide_eq_false e2] at DI
      rw [if_pos e2]
      clear e1 e2
      go_enter Try.func24, Try.ntmps24
      go_wp2_with fail
      refine Calls.mono (DB.out _) ?_
      rintro e w2 ⟨rfl, hw2⟩
      subst hw2
      go_wp2_with fail
      refine Calls.mono (DI.out _) ?_
      rintro e w3 ⟨rfl, hw3⟩
      subst hw3
      go_wp2_with fail
      go_ret
      exact ⟨rfl, rfl⟩
  · rw [decide_eq_false e1] at DB
    rw [if_pos e1]
    clear e1
    go_enter Try.func24, Try.ntmps24
    go_wp2_with fail
    refine Calls.mono (DB.out _) ?_
    rintro e w2 ⟨rfl, hw2⟩
    subst hw2
    go_wp2_with fail
    go_ret
    exact ⟨rfl, rfl⟩
end Go.Proofs.Ytgjfmepbphfjoaa
