/-
  Hands in new memory.
-/
import Derived.Test.YtfcpgabimedjmaaJDbDcDe
import Derived.Test.YtfcpgabimedjmaaJTcTd
namespace Go.Proofs.Ytfcpgabimedjmaa
open Go.RowKit Go.ChangeShapes Go.WideShapes
set_option linter.unusedVariables false

theorem infoHandD : (Try.prog.info? 39).map (fun i => (i.zero, i.size, i.bytes)) = some (some (.agg #[.int .i64 0, .int .i64 0]), 2, 16) := by kernel_rfl
theorem makeHands16 (w : World) : (Instr.makeSlice 25 (.int .i64 16) (.int .i64 16)).run Try.prog w = .ok (.slice (some ⟨w.heap.size, 0, none⟩) 16 16) (w.alloc (.cells (madeCells #[.int .i64 0, .int .i64 0] 32) 39)) := by
  obtain ⟨i, hi, hz0, hz1, hz2⟩ := info_parts infoHandD
  have h := run_make (P := Try.prog) w 25 39 i _ Try.underlying25 hi hz0 .i64 .i64 16 16 (by omega) (by omega) (by rw [hz2]; omega) (by omega)
  rw [hz1] at h
  exact h
theorem rep_pair (n i : Nat) (h : i < n) : (List.replicate n ((0 : Int), (0 : Int))).getD i (0, 0) = (0, 0) := by
  rw [getD_elem _ _ (by rw [List.length_replicate]; exact h), List.getElem_replicate]
theorem made_zero (n j : Nat) (h : j < n) : (madeCells #[.int .i64 0, .int .i64 0] n)[j]? = some (.int .i64 0) := by
  have h2 : j % 2 = 0 ∨ j % 2 = 1 := by omega
  rcases h2 with h2 | h2 <;> simp [madeCells, h, h2]
theorem hands_made (W : World) : HandsAt (W.alloc (.cells (madeCells #[.int .i64 0, .int .i64 0] 32) 39)) (some ⟨W.heap.size, 0, none⟩) (List.replicate 16 (0, 0)) := fun i hi => by
  rw [List.length_replicate] at hi
  refine ⟨W.heap.size, 0, rfl, ?_, ?_⟩
  · rw [rep_pair 16 i hi]
    exact alloc_cell W _ _ _ (made_zero _ _ (by omega))
  · rw [rep_pair 16 i hi]
    exact alloc_cell W _ _ _ (made_zero _ _ (by omega))
end Go.Proofs.Ytfcpgabimedjmaa

namespace Go.Proofs.Ytfcpgabimedjmaa
open Go.RowKit
set_option linter.unusedVariables false

theorem natH {x : Int} (h : isH x) : ∃ p : Nat, x = p ∧ p < 16 := ⟨x.toNat, by have := h.1; omega, by have := h.2; have := h.1; omega⟩
/-- The cells of a realm's box behind something. -/
theorem box_after {w W : World} {t : Nat} {v0 v1 v2 v3 : Value} (hb : Below (w.heap.size + 1) (w.alloc (.cells #[v0, v1, v2, v3] t)) W) : W.heap[w.heap.size]? = some (.cells #[v0, v1, v2, v3] t (0, 0)) := (hb.block _ (Nat.lt_succ_self _)).trans (box4_new _ _ _ _ _ _)

set_option maxRecDepth 100000 in
set_option maxHeartbeats 1000000 in
theorem rcheck_ans : RCheckAns := fun A R w hB hW => by
  obtain ⟨a0, a1, a2, a3, c0, c1, c2, c3⟩ := A
  obtain ⟨hN, hBS, hH, hI, hBC, hT⟩ := hB
  obtain ⟨w0, w1, w2, w3⟩ := hW
  have D0 : Hid (∀ o1, _) := fun o1 => check_any a0 c0 R.s (w.alloc o1) hN hBS (w0.below (one_belowS _ _))
  have D1 : Hid (∀ W, Below w.heap.size w W → _) := fun W hW => gcheck_any a2 c2 R.i W hI hBC (w2.below hW)
  clear w0 w1 w2 w3 hBS hBC
  dsimp only [rlV]
  unfold rcheckE
  obtain ⟨E0, h0⟩ : ∃ E, checkE R.s = E := ⟨_, rfl⟩
  obtain ⟨E1, h1⟩ : ∃ E, gcheckE R.i = E := ⟨_, rfl⟩
  rw [h0] at D0 ⊢
  rw [h1] at D1 ⊢
  clear h0 h1
  generalize R.s.length = n0 at *
  generalize R.i.length = n2 at *
  generalize R.t.length = n3 at *
  generalize R.hs.length = n1 at *
  by_cases e0 : E0 = 0
  · subst e0
    rw [if_pos rfl]
    by_cases e1 : n1 = 16
    · subst e1
      rw [if_pos rfl]
      by_cases e2 : E1 = 0
      · subst e2
        rw [if_pos rfl]
        by_cases e3 : 4800 < n3
        · rw [if_pos e3]
          have e3' : (4800 : Int) < (n3 : Int) := by omega
          go_enter Try.func5, Try.ntmps5
          go_wp2_with fail
          refine Calls.mono (D0.out _) ?_
          rintro e V ⟨rfl, hb⟩
          have HB : Hid (Below w.heap.size w V) := (one_belowS w _).trans (hb.mono (by simp))
          simp only [World.size_alloc] at hb
          have HX : Hid _ := box_after hb
          obtain ⟨l0, l1, l2, l3, fz, lt⟩ := box4_facts HX.out
          clear hb D0
          go_wp2_with fail
          refine Calls.mono (D1.out _ HB.out) ?_
          rintro e V2 ⟨rfl, hb⟩
          have HB2 : Hid (Below w.heap.size w V2) := HB.out.trans (hb.mono HB.out.size)
          have HX2 : Hid _ := keepB HX.out hb
          clear l0 l1 l2 l3 fz lt
          obtain ⟨l0, l1, l2, l3, fz, lt⟩ := box4_facts HX2.out
          clear hb D1
          go_wp2
          go_ret
          exact ⟨rfl, HB2.out⟩
        · rw [if_neg e3]
          have e3' : ¬ (4800 : Int) < (n3 : Int) := by omega
          go_enter Try.func5, Try.ntmps5
          go_wp2_with fail
          refine Calls.mono (D0.out _) ?_
          rintro e V ⟨rfl, hb⟩
          have HB : Hid (Below w.heap.size w V) := (one_belowS w _).trans (hb.mono (by simp))
          simp only [World.size_alloc] at hb
          have HX : Hid _ := box_after hb
          obtain ⟨l0, l1, l2, l3, fz, lt⟩ := box4_facts HX.out
          clear hb D0
          go_wp2_with fail
          refine Calls.mono (D1.out _ HB.out) ?_
          rintro e V2 ⟨rfl, hb⟩
          have HB2 : Hid (Below w.heap.size w V2) := HB.out.trans (hb.mono HB.out.size)
          have HX2 : Hid _ := keepB HX.out hb
          clear l0 l1 l2 l3 fz lt
          obtain ⟨l0, l1, l2, l3, fz, lt⟩ := box4_facts HX2.out
          clear hb D1
          go_wp2
          go_ret
          exact ⟨rfl, HB2.out⟩
      · rw [if_neg e2]
        have hz : (E1 == 0) = false := by simp [e2]
        go_enter Try.func5, Try.ntmps5
        go_wp2_with fail
        refine Calls.mono (D0.out _) ?_
        rintro e V ⟨rfl, hb⟩
        have HB : Hid (Below w.heap.size w V) := (one_belowS w _).trans (hb.mono (by simp))
        simp only [World.size_alloc] at hb
        have HX : Hid _ := box_after hb
        obtain ⟨l0, l1, l2, l3, fz, lt⟩ := box4_facts HX.out
        clear hb D0
        go_wp2_with fail
        refine Calls.mono (D1.out _ HB.out) ?_
        rintro e V2 ⟨rfl, hb⟩
        have HB2 : Hid (Below w.heap.size w V2) := HB.out.trans (hb.mono HB.out.size)
        clear l0 l1 l2 l3 fz lt hb D1
        go_wp2
        go_ret
        exact ⟨rfl, HB2.out⟩
    · rw [if_neg e1]
      have e1' : ¬ ((n1 : Int) = 16) := by omega
      have hz : ((n1 : Int) == 16) = false := by simp [e1']
      go_enter Try.func5, Try.ntmps5
      go_wp2_with fail
      refine Calls.mono (D0.out _) ?_
      rintro e V ⟨rfl, hb⟩
      have HB : Hid (Below w.heap.size w V) := (one_belowS w _).trans (hb.mono (by simp))
      simp only [World.size_alloc] at hb
      have HX : Hid _ := box_after hb
      obtain ⟨l0, l1, l2, l3, fz, lt⟩ := box4_facts HX.out
      clear hb D0 D1
      go_wp2
      go_ret
      exact ⟨rfl, HB.out⟩
  · rw [if_neg e0]
    have hz : (E0 == 0) = false := by simp [e0]
    go_enter Try.func5, Try.ntmps5
    go_wp2_with fail
    refine Calls.mono (D0.out _) ?_
    rintro e V ⟨rfl, hb⟩
    have HB : Hid (Below w.heap.size w V) := (one_belowS w _).trans (hb.mono (by simp))
    clear hb D0 D1
    go_wp2
    go_ret
    exact ⟨rfl, HB.out⟩

set_option maxRecDepth 100000 in
set_option maxHeartbeats 1000000 in
theorem newBadD (p : Int) (w : World) (hp : p < 0 ∨ 24 < p) :
    Calls Try.prog 17 #[.int .i64 p] w fun e w' => e = .returned (.tuple #[.agg #[.slice none 0 0], .int .i64 2]) ∧ Below w.heap.size w w' := by
  go_enter Try.func17, Try.ntmps17
  go_wp2_with (go_at_call 23; refine (within_no _ _ _ _ hp).mono ?_; rintro e w' ⟨rfl, rfl⟩)
  first
    | (go_ret; exact ⟨rfl, Below.refl _ _⟩)
    | (go_ret; exact ⟨rfl, (Below.refl _ _).alloc (Nat.le_refl _) _⟩)
    | (refine bodyPost_ret (v := .tuple #[.agg #[.slice none 0 0], .int .i64 2]) (by simp [results, Try.results17, go_sem]) rfl ⟨rfl, ?_⟩; first | exact (Below.refl _ _).alloc (Nat.le_refl _) _ | exact ((Below.refl _ _).alloc (Nat.le_refl _) _).setCell (by simp) _ | exact (((Below.refl _ _).alloc (Nat.le_refl _) _).setCell (by simp) _).drew)

set_option maxRecDepth 100000 in
set_option maxHeartbeats 1000000 in
theorem new_ans : NewAns := fun p w => by
  by_cases hp : 0 ≤ p ∧ p ≤ 24
  · have e1 : newR p = ⟨List.replicate p.toNat unusedNd, List.replicate 16 (0, 0), [], []⟩ := if_pos hp
    have e2 : newE p = 0 := if_pos hp
    rw [e1, e2]
    clear e1 e2
    obtain ⟨n, rfl⟩ : ∃ n : Nat, p = n := ⟨p.toNat, by omega⟩
    rw [Int.toNat_natCast]
    have D : Hid (∀ o1, _) := fun o1 => new_any n (w.alloc o1) (by omega)
    clear hp
    have hmk := makeHands16
    go_enter Try.func9, Try.ntmps9
    go_wp2_with fail
    refine Calls.mono (D.out _) ?_
    rintro e V ⟨g, rfl, hb, hn⟩
    have HB : Hid (Below w.heap.size w V) := (one_belowS w _).trans (hb.mono (by simp))
    have HN : Hid (NdsAt V (some ⟨g, 0, none⟩) (List.replicate n unusedNd)) := hn
    simp only [World.size_alloc] at hb
    have HX : Hid _ := box_after hb
    obtain ⟨l0, l1, l2, l3, fz, lt⟩ := box4_facts HX.out
    clear hb D hn
    go_wp2_with fail
    go_region
    go_wp2
    have SL : Hid (SlB V w.heap.size) := sl_box HX.out ⟨_, _, _, rfl⟩ ⟨_, _, _, rfl⟩ ⟨_, _, _, rfl⟩ ⟨_, _, _, rfl⟩
    obtain ⟨X, hX⟩ : ∃ X, (((V.setCell ⟨w.heap.size, 0, none⟩ (.slice (some ⟨g, 0, none⟩) n n)).setCell ⟨w.heap.size, 1, none⟩ (.slice (some ⟨V.heap.size + 1, 0, none⟩) 16 16)).setCell ⟨w.heap.size, 2, none⟩ (.slice none 0 0)).setCell ⟨w.heap.size, 3, none⟩ (.slice none 0 0) = X := ⟨_, rfl⟩
    have x0 : X.heap[w.heap.size]? = some (.cells #[.slice (some ⟨g, 0, none⟩) n n, .slice (some ⟨V.heap.size + 1, 0, none⟩) 16 16, .slice none 0 0, .slice none 0 0] 31 (0, 0)) := by rw [← hX]; exact box4_set HX.out
    have x1 : NdsAt X (some ⟨g, 0, none⟩) (List.replicate n unusedNd) := by rw [← hX]; exact HN.out.offB SL.out (OffB.refl _ _).set.set.set.set
    have x2 : X.heap.size = V.heap.size := by rw [← hX]; simp
    have x3 : Below w.heap.size w X := by rw [← hX]; exact (((HB.out.setCell (Nat.le_refl _) _).setCell (Nat.le_refl _) _).setCell (Nat.le_refl _) _).setCell (Nat.le_refl _) _
    rw [hX]
    clear hX
    have x4 := hands_made (X.alloc (Obj.cells #[Value.slice (some ⟨g, 0, none⟩) n n] 24))
    rw [World.size_alloc, x2] at x4
    have b2 := (two_belowS X (Obj.cells #[Value.slice (some ⟨g, 0, none⟩) n n] 24) (Obj.cells (madeCells #[Value.int IntKind.i64 0, Value.int IntKind.i64 0] 32) 39)).drew
    have x5 := keepB x0 b2
    obtain ⟨m0, m1, m2, m3, mf, ml⟩ := box4_facts x5
    refine bodyPost_ret (v := .tuple #[.agg #[.slice (some ⟨g, 0, none⟩) n n, .slice (some ⟨V.heap.size + 1, 0, none⟩) 16 16, .slice none 0 0, .slice none 0 0], .int .i64 0]) (by simp [results, Try.results9, go_sem, m0, m1, m2, m3]) rfl ⟨⟨some ⟨g, 0, none⟩, some ⟨V.heap.size + 1, 0, none⟩, none, none, n, 16, 0, 0⟩, by simp [rlV], x3.trans (b2.mono x3.size), x1.below b2, x4.below (Below.refl _ _).drew, fun _ h => absurd h (Nat.not_lt_zero _), fun _ h => absurd h (Nat.not_lt_zero _)⟩
  · have e1 : newR p = zeroRl := if_neg hp
    have e2 : newE p = 2 := if_neg hp
    rw [e1, e2]
    clear e1 e2
    have D : Hid (∀ o1, _) := fun o1 => newBadD p (w.alloc o1) (by omega)
    clear hp
    go_enter Try.func9, Try.ntmps9
    go_wp2_with fail
    refine Calls.mono (D.out _) ?_
    rintro e V ⟨rfl, hb⟩
    have HB : Hid (Below w.heap.size w V) := (one_belowS w _).trans (hb.mono (by simp))
    simp only [World.size_alloc] at hb
    have HX : Hid _ := box_after hb
    obtain ⟨l0, l1, l2, l3, fz, lt⟩ := box4_facts HX.out
    clear hb D
    go_wp2
    obtain ⟨X, hX⟩ : ∃ X, (((V.setCell ⟨w.heap.size, 0, none⟩ (.slice none 0 0)).setCell ⟨w.heap.size, 1, none⟩ (.slice none 0 0)).setCell ⟨w.heap.size, 2, none⟩ (.slice none 0 0)).setCell ⟨w.heap.size, 3, none⟩ (.slice none 0 0) = X := ⟨_, rfl⟩
    have x0 : X.heap[w.heap.size]? = some (.cells #[.slice none 0 0, .slice none 0 0, .slice none 0 0, .slice none 0 0] 31 (0, 0)) := by rw [← hX]; exact box4_set HX.out
    have x3 : Below w.heap.size w X := by rw [← hX]; exact (((HB.out.setCell (Nat.le_refl _) _).setCell (Nat.le_refl _) _).setCell (Nat.le_refl _) _).setCell (Nat.le_refl _) _
    rw [hX]
    clear hX
    have b2 := one_belowS X (Obj.cells #[Value.slice none 0 0] 24)
    have x5 := keepB x0 b2
    obtain ⟨m0, m1, m2, m3, mf, ml⟩ := box4_facts x5
    refine bodyPost_ret (v := .tuple #[.agg #[.slice none 0 0, .slice none 0 0, .slice none 0 0, .slice none 0 0], .int .i64 2]) (by simp [results, Try.results9, go_sem, m0, m1, m2, m3]) rfl ⟨⟨none, none, none, none, 0, 0, 0, 0⟩, rfl, x3.trans (b2.mono x3.size), rl_zero _ _⟩

set_option maxRecDepth 100000 in
set_option maxHeartbeats 1000000 in
theorem isHand_any (A : RA) (R : Rl) (k : Int) (w : World) (hl : R.hs.length = 16) :
    Calls Try.prog 12 #[rlV A R, .int .i64 k] w fun e w' => e = .returned (.bool (decide (isH k))) ∧ Below w.heap.size w w' := by
  dsimp only [rlV]
  rw [hl]
  have D : Hid (∀ W, Calls _ _ _ _ _) := fun W => within_any k 0 15 W
  have hd : decide (0 ≤ k ∧ k ≤ 15) = decide (isH k) := rfl
  rw [hd] at D
  clear hd hl
  generalize decide (isH k) = r at *
  go_enter Try.func12, Try.ntmps12
  go_wp2_with fail
  refine Calls.mono (D.out _) ?_
  rintro e V ⟨rfl, hw⟩
  subst hw
  go_wp2
  go_ret
  exact ⟨rfl, one_belowS _ _⟩
end Go.Proofs.Ytfcpgabimedjmaa
