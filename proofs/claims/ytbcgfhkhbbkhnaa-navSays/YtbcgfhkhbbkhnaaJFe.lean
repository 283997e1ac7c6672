/-
  Contracts of Attach and Discard.
-/
import Derived.Test.YtbcgfhkhbbkhnaaJFd
namespace Go.Proofs.Ytbcgfhkhbbkhnaa
open Go.RowKit
set_option linter.unusedVariables false

theorem att_held {L : List Fr} {k o m : Int} (h : heldE L k ≠ 0) : attE L k o m = heldE L k := by unfold attE; rw [if_pos h]
theorem att_range {L : List Fr} {k o m : Int} (h : heldE L k = 0) (h2 : ¬ ((0 ≤ o ∧ o ≤ 9) ∧ (0 ≤ m ∧ m ≤ 7))) : attE L k o m = 2 := by unfold attE; rw [if_neg (not_not_intro h), if_pos h2]
theorem att_secret {L : List Fr} {k o m : Int} (h : heldE L k = 0) (h2 : (0 ≤ o ∧ o ≤ 9) ∧ (0 ≤ m ∧ m ≤ 7)) (h3 : bits .and .i64 (fr L k.toNat).m 4 = 0) : attE L k o m = 7 := by unfold attE; rw [if_neg (not_not_intro h), if_neg (not_not_intro h2), if_pos h3]
theorem att_many {L : List Fr} {k o m : Int} (h : heldE L k = 0) (h2 : (0 ≤ o ∧ o ≤ 9) ∧ (0 ≤ m ∧ m ≤ 7)) (h3 : bits .and .i64 (fr L k.toNat).m 4 ≠ 0) (h4 : L.length = 8) : attE L k o m = 1 := by unfold attE; rw [if_neg (not_not_intro h), if_neg (not_not_intro h2), if_neg h3, if_pos h4]

theorem put5_at {F : Nat → Value} {s : Nat} (v0 v1 v2 v3 v4 : Value) (m : Nat) (hm : m < s + 5) (hs : s ≤ m) : (if m = s + 4 then v4 else if m = s + 3 then v3 else if m = s + 2 then v2 else if m = s + 1 then v1 else if m = s then v0 else F m) = (if m = s then v0 else if m = s + 1 then v1 else if m = s + 2 then v2 else if m = s + 3 then v3 else v4) := by
  by_cases h0 : m = s
  · subst h0; rw [if_neg (by omega), if_neg (by omega), if_neg (by omega), if_neg (by omega), if_pos rfl, if_pos rfl]
  · by_cases h1 : m = s + 1
    · subst h1; rw [if_neg (by omega), if_neg (by omega), if_neg (by omega), if_pos rfl, if_neg (by omega), if_pos rfl]
    · by_cases h2 : m = s + 2
      · subst h2; rw [if_neg (by omega), if_neg (by omega), if_pos rfl, if_neg (by omega), if_neg (by omega), if_pos rfl]
      · by_cases h3 : m = s + 3
        · subst h3; rw [if_neg (by omega), if_pos rfl, if_neg (by omega), if_neg (by omega), if_neg (by omega), if_pos rfl]
        · have h4 : m = s + 4 := by omega
          subst h4; rw [if_pos rfl, if_neg (by omega), if_neg (by omega), if_neg (by omega), if_neg (by omega)]

theorem FrsAt.put_last {w : World} {g n : Nat} {F : Nat → Value} {L : List Fr} {x : Fr} (h : w.rowIs g 29 ((n + 1) * 5) F) (hn : L.length = n) (hF : ∀ m, m < L.length * 5 → F m = frF L m) :
    FrsAt (((((w.setCell ⟨g, n * 5, none⟩ (.int .i64 x.p)).setCell ⟨g, n * 5 + 1, none⟩ (.int .i64 x.o)).setCell ⟨g, n * 5 + 2, none⟩ (.int .i64 x.m)).setCell ⟨g, n * 5 + 3, none⟩ (.int .i64 x.t)).setCell ⟨g, n * 5 + 4, none⟩ (.bool x.g)) (some ⟨g, 0, none⟩) (L ++ [x]) := by
  subst hn
  refine frs_of_row (((((h.set _ _).set _ _).set _ _).set _ _).set _ _) (by simp) (fun m hm => ?_)
  rw [List.length_append, List.length_singleton] at hm
  by_cases hlt : m < L.length * 5
  · rw [if_neg (by omega), if_neg (by omega), if_neg (by omega), if_neg (by omega), if_neg (by omega), hF m hlt]
    exact frF_congr (by rw [fr_left (by omega)])
  · rw [put5_at _ _ _ _ _ m (by omega) (by omega)]
    have hx : fr (L ++ [x]) L.length = x := fr_last L x
    by_cases h0 : m = L.length * 5
    · rw [if_pos h0, h0, show L.length * 5 = L.length * 5 + 0 by omega, frF_at _ _ 0 (by omega), hx]; rfl
    · rw [if_neg h0]
      by_cases h1 : m = L.length * 5 + 1
      · rw [if_pos h1, h1, frF_at _ _ 1 (by omega), hx]; rfl
      · rw [if_neg h1]
        by_cases h2 : m = L.length * 5 + 2
        · rw [if_pos h2, h2, frF_at _ _ 2 (by omega), hx]; rfl
        · rw [if_neg h2]
          by_cases h3 : m = L.length * 5 + 3
          · rw [if_pos h3, h3, frF_at _ _ 3 (by omega), hx]; rfl
          · rw [if_neg h3, show m = L.length * 5 + 4 by omega, frF_at _ _ 4 (by omega), hx]; rfl

set_option maxRecDepth 100000 in
set_option maxHeartbeats 2000000 in
theorem attach_held (a : Option Addr) (c : Nat) (L : List Fr) (k o m : Int) (w : World) (hN : L.length ≤ 9223372036854775807) (hL : FrsAt w a L) (h : heldE L k ≠ 0) :
    Calls Try.prog 18 #[.slice a L.length c, .int .i64 k, .int .i64 o, .int .i64 m] w fun e w' => e = .returned (.tuple #[.slice none 0 0, .int .i64 (attE L k o m)]) ∧ Below w.heap.size w w' := by
  rw [att_held h]
  have D : Hid _ := checkHeld_any a c L k w hN hL
  have e2 : decide (heldE L k = 0) = false := decide_eq_false h
  clear hL
  generalize heldE L k = E at *
  generalize L.length = n at *
  go_enter Try.func18, Try.ntmps18
  go_wp2_with fail
  refine Calls.mono D.out ?_
  rintro e w1 ⟨rfl, hb1⟩
  have HB1 : Hid (Below w.heap.size w w1) := hb1
  clear hb1
  go_wp2_with fail
  exact bodyPost_ret (v := .tuple #[.slice none 0 0, .int .i64 E]) (by simp [results, Try.results18, go_sem]) rfl ⟨rfl, HB1.out⟩

set_option maxRecDepth 100000 in
set_option maxHeartbeats 2000000 in
theorem attach_origin (a : Option Addr) (c : Nat) (L : List Fr) (k o m : Int) (w : World) (hN : L.length ≤ 9223372036854775807) (hL : FrsAt w a L) (h : heldE L k = 0) (h2 : ¬ (0 ≤ o ∧ o ≤ 9)) :
    Calls Try.prog 18 #[.slice a L.length c, .int .i64 k, .int .i64 o, .int .i64 m] w fun e w' => e = .returned (.tuple #[.slice none 0 0, .int .i64 (attE L k o m)]) ∧ Below w.heap.size w w' := by
  rw [att_range h (fun hh => h2 hh.1)]
  have d := checkHeld_any a c L k w hN hL
  rw [h] at d
  have D : Hid _ := d
  obtain ⟨R, q, rfl, hq, hg⟩ := held_zero h
  have hfew := R.few
  have hq2 : (q : Int) < (L.length : Int) := by omega
  have HL : Hid (FrsAt w a L) := hL
  obtain ⟨b, ao, ea, c0, c1, c2, c3, c4⟩ := hL q hq
  subst ea
  have d1 := originFits_any o
  rw [decide_eq_false h2] at d1
  have DO : Hid _ := d1
  clear d1
  clear hL R h d HL hg
  generalize fr L q = x at *
  obtain ⟨xp, xo, xm, xt, xg⟩ := x
  dsimp only at c0 c1 c2 c3 c4
  generalize L.length = n at *
  go_enter Try.func18, Try.ntmps18
  go_wp2_with fail
  refine Calls.mono D.out ?_
  rintro e w1 ⟨rfl, hb1⟩
  have HB1 : Hid (Below w.heap.size w w1) := hb1
  replace c2 := keepC c2 hb1
  clear hb1
  go_wp2_with fail
  refine Calls.mono (DO.out _) ?_
  rintro e w2 ⟨rfl, hw2⟩
  have hw3 := hw2.symm
  clear hw2
  subst hw3
  go_wp2_with fail
  exact bodyPost_ret (v := .tuple #[.slice none 0 0, .int .i64 2]) (by simp [results, Try.results18, go_sem]) rfl ⟨rfl, HB1.out⟩

set_option maxRecDepth 100000 in
set_option maxHeartbeats 2000000 in
theorem attach_may (a : Option Addr) (c : Nat) (L : List Fr) (k o m : Int) (w : World) (hN : L.length ≤ 9223372036854775807) (hL : FrsAt w a L) (h : heldE L k = 0) (h2 : 0 ≤ o ∧ o ≤ 9) (h3 : ¬ (0 ≤ m ∧ m ≤ 7)) :
    Calls Try.prog 18 #[.slice a L.length c, .int .i64 k, .int .i64 o, .int .i64 m] w fun e w' => e = .returned (.tuple #[.slice none 0 0, .int .i64 (attE L k o m)]) ∧ Below w.heap.size w w' := by
  rw [att_range h (fun hh => h3 hh.2)]
  have d := checkHeld_any a c L k w hN hL
  rw [h] at d
  have D : Hid _ := d
  obtain ⟨R, q, rfl, hq, hg⟩ := held_zero h
  have hfew := R.few
  have hq2 : (q : Int) < (L.length : Int) := by omega
  have HL : Hid (FrsAt w a L) := hL
  obtain ⟨b, ao, ea, c0, c1, c2, c3, c4⟩ := hL q hq
  subst ea
  have d1 := originFits_any o
  rw [decide_eq_true h2] at d1
  have DO : Hid _ := d1
  have d2 := mayFits_any m
  rw [decide_eq_false h3] at d2
  have DM : Hid _ := d2
  clear d1 d2
  clear hL R h d HL hg
  generalize fr L q = x at *
  obtain ⟨xp, xo, xm, xt, xg⟩ := x
  dsimp only at c0 c1 c2 c3 c4
  generalize L.length = n at *
  go_enter Try.func18, Try.ntmps18
  go_wp2_with fail
  refine Calls.mono D.out ?_
  rintro e w1 ⟨rfl, hb1⟩
  have HB1 : Hid (Below w.heap.size w w1) := hb1
  replace c2 := keepC c2 hb1
  clear hb1
  go_wp2_with fail
  refine Calls.mono (DO.out _) ?_
  rintro e w2 ⟨rfl, hw2⟩
  have hw3 := hw2.symm
  clear hw2
  subst hw3
  go_wp2_with fail
  refine Calls.mono (DM.out _) ?_
  rintro e w2 ⟨rfl, hw2⟩
  have hw3 := hw2.symm
  clear hw2
  subst hw3
  go_wp2_with fail
  exact bodyPost_ret (v := .tuple #[.slice none 0 0, .int .i64 2]) (by simp [results, Try.results18, go_sem]) rfl ⟨rfl, HB1.out⟩

set_option maxRecDepth 100000 in
set_option maxHeartbeats 2000000 in
theorem attach_secret (a : Option Addr) (c : Nat) (L : List Fr) (k o m : Int) (w : World) (hN : L.length ≤ 9223372036854775807) (hL : FrsAt w a L) (h : heldE L k = 0) (h2 : (0 ≤ o ∧ o ≤ 9) ∧ (0 ≤ m ∧ m ≤ 7)) (h3 : bits .and .i64 (fr L k.toNat).m 4 = 0) :
    Calls Try.prog 18 #[.slice a L.length c, .int .i64 k, .int .i64 o, .int .i64 m] w fun e w' => e = .returned (.tuple #[.slice none 0 0, .int .i64 (attE L k o m)]) ∧ Below w.heap.size w w' := by
  rw [att_secret h h2 h3]
  have d := checkHeld_any a c L k w hN hL
  rw [h] at d
  have D : Hid _ := d
  obtain ⟨R, q, rfl, hq, hg⟩ := held_zero h
  have hfew := R.few
  have hq2 : (q : Int) < (L.length : Int) := by omega
  have HL : Hid (FrsAt w a L) := hL
  obtain ⟨b, ao, ea, c0, c1, c2, c3, c4⟩ := hL q hq
  subst ea
  have d1 := originFits_any o
  rw [decide_eq_true h2.1] at d1
  have DO : Hid _ := d1
  have d2 := mayFits_any m
  rw [decide_eq_true h2.2] at d2
  have DM : Hid _ := d2
  clear d1 d2
  rw [Int.toNat_natCast] at h3
  clear hL R h d HL hg
  generalize fr L q = x at *
  obtain ⟨xp, xo, xm, xt, xg⟩ := x
  dsimp only at c0 c1 c2 c3 c4 h3
  generalize L.length = n at *
  have hz : decide (bits .and .i64 xm 4 = 0) = true := decide_eq_true h3
  go_enter Try.func18, Try.ntmps18
  go_wp2_with fail
  refine Calls.mono D.out ?_
  rintro e w1 ⟨rfl, hb1⟩
  have HB1 : Hid (Below w.heap.size w w1) := hb1
  replace c2 := keepC c2 hb1
  clear hb1
  go_wp2_with fail
  refine Calls.mono (DO.out _) ?_
  rintro e w2 ⟨rfl, hw2⟩
  have hw3 := hw2.symm
  clear hw2
  subst hw3
  go_wp2_with fail
  refine Calls.mono (DM.out _) ?_
  rintro e w2 ⟨rfl, hw2⟩
  have hw3 := hw2.symm
  clear hw2
  subst hw3
  go_wp2_with fail
  exact bodyPost_ret (v := .tuple #[.slice none 0 0, .int .i64 7]) (by simp [results, Try.results18, go_sem]) rfl ⟨rfl, HB1.out⟩

set_option maxRecDepth 100000 in
set_option maxHeartbeats 2000000 in
theorem attach_many (a : Option Addr) (c : Nat) (L : List Fr) (k o m : Int) (w : World) (hN : L.length ≤ 9223372036854775807) (hL : FrsAt w a L) (h : heldE L k = 0) (h2 : (0 ≤ o ∧ o ≤ 9) ∧ (0 ≤ m ∧ m ≤ 7)) (h3 : bits .and .i64 (fr L k.toNat).m 4 ≠ 0) (h4 : L.length = 8) :
    Calls Try.prog 18 #[.slice a L.length c, .int .i64 k, .int .i64 o, .int .i64 m] w fun e w' => e = .returned (.tuple #[.slice none 0 0, .int .i64 (attE L k o m)]) ∧ Below w.heap.size w w' := by
  rw [att_many h h2 h3 h4]
  have d := checkHeld_any a c L k w hN hL
  rw [h] at d
  have D : Hid _ := d
  obtain ⟨R, q, rfl, hq, hg⟩ := held_zero h
  have hfew := R.few
  have hq2 : (q : Int) < (L.length : Int) := by omega
  have HL : Hid (FrsAt w a L) := hL
  obtain ⟨b, ao, ea, c0, c1, c2, c3, c4⟩ := hL q hq
  subst ea
  have d1 := originFits_any o
  rw [decide_eq_true h2.1] at d1
  have DO : Hid _ := d1
  have d2 := mayFits_any m
  rw [decide_eq_true h2.2] at d2
  have DM : Hid _ := d2
  clear d1 d2
  rw [Int.toNat_natCast] at h3
  rw [h4] at *
  clear hL R h d HL hg
  generalize fr L q = x at *
  obtain ⟨xp, xo, xm, xt, xg⟩ := x
  dsimp only at c0 c1 c2 c3 c4 h3
  have hz : decide (bits .and .i64 xm 4 = 0) = false := decide_eq_false h3
  go_enter Try.func18, Try.ntmps18
  go_wp2_with fail
  refine Calls.mono D.out ?_
  rintro e w1 ⟨rfl, hb1⟩
  have HB1 : Hid (Below w.heap.size w w1) := hb1
  replace c2 := keepC c2 hb1
  clear hb1
  go_wp2_with fail
  refine Calls.mono (DO.out _) ?_
  rintro e w2 ⟨rfl, hw2⟩
  have hw3 := hw2.symm
  clear hw2
  subst hw3
  go_wp2_with fail
  refine Calls.mono (DM.out _) ?_
  rintro e w2 ⟨rfl, hw2⟩
  have hw3 := hw2.symm
  clear hw2
  subst hw3
  go_wp2_with fail
  exact bodyPost_ret (v := .tuple #[.slice none 0 0, .int .i64 1]) (by simp [results, Try.results18, go_sem]) rfl ⟨rfl, HB1.out⟩

set_option maxRecDepth 100000 in
set_option maxHeartbeats 2000000 in
theorem attach_ok (a : Option Addr) (c : Nat) (L : List Fr) (k o m : Int) (w : World) (hN : L.length ≤ 9223372036854775807) (hL : FrsAt w a L) (hE : attE L k o m = 0) :
    Calls Try.prog 18 #[.slice a L.length c, .int .i64 k, .int .i64 o, .int .i64 m] w fun e w' => ∃ g, e = .returned (.tuple #[.slice (some ⟨g, 0, none⟩) (L.length + 1) (L.length + 1), .int .i64 0]) ∧ Below w.heap.size w w' ∧ w.heap.size ≤ g ∧ FrsAt w' (some ⟨g, 0, none⟩) (L ++ [attF L k o m]) := by
  obtain ⟨h, ho, hm, h3, h4⟩ := att_zero hE
  have h2 := And.intro ho hm
  clear hE ho hm
  have d := checkHeld_any a c L k w hN hL
  rw [h] at d
  have D : Hid _ := d
  obtain ⟨R, q, rfl, hq, hg⟩ := held_zero h
  have hfew := R.few
  have hq2 : (q : Int) < (L.length : Int) := by omega
  have HL : Hid (FrsAt w a L) := hL
  obtain ⟨b, ao, ea, c0, c1, c2, c3, c4⟩ := hL q hq
  subst ea
  have d1 := originFits_any o
  rw [decide_eq_true h2.1] at d1
  have DO : Hid _ := d1
  have d2 := mayFits_any m
  rw [decide_eq_true h2.2] at d2
  have DM : Hid _ := d2
  clear d1 d2
  rw [Int.toNat_natCast] at h3
  obtain ⟨i0, hi0, hz0, hz1, hz2⟩ := info_parts infoFrame
  have hmk : ∀ W : World, (Instr.makeSlice 22 (.int .i64 ((L.length : Int) + 1)) (.int .i64 ((L.length : Int) + 1))).run Try.prog W = .ok (.slice (some ⟨W.heap.size, 0, none⟩) (L.length + 1) (L.length + 1)) (W.alloc (.cells (madeCells zeroFs ((L.length + 1) * 5)) 29)) := fun W => makeFrames (L.length + 1) (by omega) W
  have SRC : Hid (∀ W, FrsAt W (some ⟨b, ao, none⟩) L → ∀ j v, (fcells L)[j]? = some v → W.cell? ((⟨b, ao, none⟩ : Addr).add j) = some v) := fun W hW => hW.src
  have ONE : Hid _ := fcells_one L
  have LEN : Hid ((fcells L).length = L.length * 5) := fcells_len L
  have CP : Hid (∀ (W : World) (g : Nat), W.heap[g]? = some (.cells (fcells L ++ (madeCells zeroFs ((L.length + 1) * 5)).toList.drop (fcells L).length).toArray 29 (0, 0)) → ∃ F, W.rowIs g 29 ((L.length + 1) * 5) F ∧ ∀ m, m < L.length * 5 → F m = frF L m) := fun W g hg => copied_row hg (by omega)
  have FIN : Hid (∀ (W : World) (g : Nat) (F : Nat → Value), W.rowIs g 29 ((L.length + 1) * 5) F → (∀ m, m < L.length * 5 → F m = frF L m) → FrsAt (((((W.setCell ⟨g, L.length * 5, none⟩ (.int .i64 q)).setCell ⟨g, L.length * 5 + 1, none⟩ (.int .i64 o)).setCell ⟨g, L.length * 5 + 2, none⟩ (.int .i64 (bits .and .i64 m (fr L q).m))).setCell ⟨g, L.length * 5 + 3, none⟩ (.int .i64 0)).setCell ⟨g, L.length * 5 + 4, none⟩ (.bool false)) (some ⟨g, 0, none⟩) (L ++ [attF L q o m])) := fun W g F h1 h2 => FrsAt.put_last (x := attF L q o m) h1 rfl h2
  clear hL R h d hg
  generalize fcells L = cs at *
  obtain ⟨x, hx⟩ : ∃ x, fr L q = x := ⟨_, rfl⟩
  rw [hx] at c0 c1 c2 c3 c4 h3 FIN
  clear hx
  obtain ⟨xp, xo, xm, xt, xg⟩ := x
  dsimp only at c0 c1 c2 c3 c4 h3 FIN
  generalize L ++ [attF L q o m] = A at *
  obtain ⟨n, hn⟩ : ∃ n, L.length = n := ⟨_, rfl⟩
  rw [hn] at hN hq hq2 D hfew h4 hmk LEN CP FIN ⊢
  clear hn
  have hz : decide (bits .and .i64 xm 4 = 0) = false := decide_eq_false h3
  have h8 : decide ((n : Int) = 8) = false := decide_eq_false (by omega)
  have h9 : ¬ (n : Int) = 8 := by omega
  go_enter Try.func18, Try.ntmps18
  go_wp2_with fail
  refine Calls.mono D.out ?_
  rintro e w1 ⟨rfl, hb1⟩
  have HB1 : Hid (Below w.heap.size w w1) := hb1
  replace c2 := keepC c2 hb1
  have HL1 : Hid (FrsAt w1 (some ⟨b, ao, none⟩) L) := HL.out.below hb1
  clear hb1
  go_wp2_with fail
  refine Calls.mono (DO.out _) ?_
  rintro e w2 ⟨rfl, hw2⟩
  have hw3 := hw2.symm
  clear hw2
  subst hw3
  go_wp2_with fail
  refine Calls.mono (DM.out _) ?_
  rintro e w2 ⟨rfl, hw2⟩
  have hw3 := hw2.symm
  clear hw2
  subst hw3
  have HG : Hid ((w1.alloc (.cells (madeCells zeroFs ((n + 1) * 5)) 29)).heap[w1.heap.size]? = some (.cells (madeCells zeroFs ((n + 1) * 5)).toList.toArray 29 (0, 0))) := by
    have := heap_alloc_new w1 (.cells (madeCells zeroFs ((n + 1) * 5)) 29)
    show _ = _
    simpa using this
  go_wp2_with (refine wpList_copy_wide rfl (.tmp 40) (.tmp 41) 22 22 rfl 29 i0 Try.underlying22 hi0 w1.heap.size 0 (n + 1) (n + 1) ⟨b, ao, none⟩ n c n ?hd ?hs (madeCells zeroFs ((n + 1) * 5)).toList 29 ?hg cs ?hn ?hl ?hsrc ?hfit ?h1 ?_)
  case hd => rfl
  case hs => rfl
  case hg => exact HG.out
  case hn => show n = min n (n + 1); omega
  case hl => rw [LEN.out, hz1]
  case hsrc => exact SRC.out _ (HL1.out.below (one_belowS _ _))
  case hfit => rw [LEN.out]; simp [size_madeCells]; omega
  case h1 => exact ONE.out
  intro w3 hg3 hb3
  have HB3 : Hid (Below w1.heap.size w1 w3) := hb3 _ _ (one_belowS w1 _) (Nat.le_refl _)
  obtain ⟨F, hrow, hF⟩ := CP.out w3 _ hg3
  have HR : Hid (w3.rowIs w1.heap.size 29 ((n + 1) * 5) F) := hrow
  have HF : Hid _ := hF
  have s0 := hrow.cell (i := n * 5) (by omega)
  have s1 := hrow.cell (i := n * 5 + 1) (by omega)
  have s2 := hrow.cell (i := n * 5 + 2) (by omega)
  have s3 := hrow.cell (i := n * 5 + 3) (by omega)
  have s4 := hrow.cell (i := n * 5 + 4) (by omega)
  have sf := hrow.frozen
  have sl := hrow.lt
  replace c2 := keepC c2 HB3.out
  have HBF : Hid (Below w.heap.size w (((((w3.setCell ⟨w1.heap.size, n * 5, none⟩ (.int .i64 q)).setCell ⟨w1.heap.size, n * 5 + 1, none⟩ (.int .i64 o)).setCell ⟨w1.heap.size, n * 5 + 2, none⟩ (.int .i64 (bits .and .i64 m xm))).setCell ⟨w1.heap.size, n * 5 + 3, none⟩ (.int .i64 0)).setCell ⟨w1.heap.size, n * 5 + 4, none⟩ (.bool false))) := (((((HB1.out.trans (HB3.out.mono HB1.out.size)).setCell HB1.out.size _).setCell HB1.out.size _).setCell HB1.out.size _).setCell HB1.out.size _).setCell HB1.out.size _
  clear hg3 hb3 hrow hF HG
  go_wp2_with fail
  exact bodyPost_ret (v := .tuple #[.slice (some ⟨w1.heap.size, 0, none⟩) (n + 1) (n + 1), .int .i64 0]) (by simp [results, Try.results18, go_sem]) rfl ⟨_, rfl, HBF.out, HB1.out.size, FIN.out w3 _ F HR.out HF.out⟩

/-- What is answered. -/
def resA (L : List Fr) (k o m : Int) : List Fr := if attE L k o m = 0 then L ++ [attF L k o m] else []
theorem attach_any (a : Option Addr) (c : Nat) (L : List Fr) (k o m : Int) (w : World) (hN : L.length ≤ 9223372036854775807) (hL : FrsAt w a L) :
    Calls Try.prog 18 #[.slice a L.length c, .int .i64 k, .int .i64 o, .int .i64 m] w fun e w' => ∃ va vc, e = .returned (.tuple #[.slice va (resA L k o m).length vc, .int .i64 (attE L k o m)]) ∧ Below w.heap.size w w' ∧ FrsAt w' va (resA L k o m) ∧ (resA L k o m).length ≤ vc := by
  by_cases hE : attE L k o m = 0
  · have e : resA L k o m = L ++ [attF L k o m] := if_pos hE
    rw [e, hE]
    refine (attach_ok a c L k o m w hN hL hE).mono ?_
    rintro e w' ⟨g, rfl, hb, _, hF⟩
    exact ⟨_, _, by rw [List.length_append, List.length_singleton], hb, hF, by simp⟩
  · have e : resA L k o m = [] := if_neg hE
    rw [e]
    have H : Calls Try.prog 18 #[.slice a L.length c, .int .i64 k, .int .i64 o, .int .i64 m] w fun e w' => e = .returned (.tuple #[.slice none 0 0, .int .i64 (attE L k o m)]) ∧ Below w.heap.size w w' := by
      by_cases h : heldE L k = 0
      · by_cases ho : 0 ≤ o ∧ o ≤ 9
        · by_cases hm : 0 ≤ m ∧ m ≤ 7
          · by_cases h3 : bits .and .i64 (fr L k.toNat).m 4 = 0
            · exact attach_secret a c L k o m w hN hL h ⟨ho, hm⟩ h3
            · by_cases h4 : L.length = 8
              · exact attach_many a c L k o m w hN hL h ⟨ho, hm⟩ h3 h4
              · exact absurd (by unfold attE; rw [if_neg (not_not_intro h), if_neg (not_not_intro ⟨ho, hm⟩), if_neg h3, if_neg h4]) hE
          · exact attach_may a c L k o m w hN hL h ho hm
        · exact attach_origin a c L k o m w hN hL h ho
      · exact attach_held a c L k o m w hN hL h
    refine H.mono ?_
    rintro e w' ⟨rfl, hb⟩
    exact ⟨none, 0, rfl, hb, fun i hi => absurd hi (Nat.not_lt_zero _), by simp⟩
end Go.Proofs.Ytbcgfhkhbbkhnaa
