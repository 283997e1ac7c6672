/-
  Contracts of nav's functions.
-/
import Derived.Test.YtbcgfhkhbbkhnaaJIc
import Derived.Test.YtbcgfhkhbbkhnaaJFf
namespace Go.Proofs.Ytbcgfhkhbbkhnaa
open Go.RowKit
set_option linter.unusedVariables false

set_option maxRecDepth 100000 in
set_option maxHeartbeats 2000000 in
theorem checkGo_any (a : Option Addr) (c : Nat) (L : List Fr) (k o : Int) (w : World) (hN : L.length ≤ 9223372036854775807) (hL : FrsAt w a L) :
    Calls Try.prog 14 #[.slice a L.length c, .int .i64 k, .int .i64 o] w fun e w' => e = .returned (.int .i64 (goE L k o)) ∧ Below w.heap.size w w' := by
  have D : Hid _ := fcheck_any a c L w hN hL
  have DH : Hid (∀ W, FrsAt W a L → _) := fun W hW => fholds_any a c L k W hN hW
  have DI : Hid (∀ W, _) := fun W => gwithin_any o 0 9 W
  have HL : Hid (FrsAt w a L) := hL
  clear hL
  by_cases hc : fcheckE L = 0
  · by_cases hh : fholdsE L k = 0
    · have h1 : heldE L k = 0 := by unfold heldE; rw [if_pos hc]; exact hh
      obtain ⟨R, q, rfl, hq, _⟩ := held_zero h1
      rw [hc] at D
      rw [hh] at DH
      have hq2 : (q : Int) < (L.length : Int) := by omega
      by_cases h2 : 0 ≤ o ∧ o ≤ 9
      · rw [decide_eq_true h2] at DI
        have ht : (fr L q).t ≤ 1000 := (frE_zero.1 (R.ok q hq)).2.1.2.2.2
        have e : goE L q o = if (fr L q).t = 1000 then 1 else 0 := by
          unfold goE
          rw [if_neg (not_not_intro h1), if_neg (not_not_intro h2), Int.toNat_natCast]
          by_cases h3 : (fr L q).t = 1000
          · rw [if_pos h3, if_pos (by omega)]
          · rw [if_neg h3, if_neg (by omega)]
        rw [e]
        have HC : Hid (∀ W, FrsAt W a L → ∃ b ao, a = some ⟨b, ao, none⟩ ∧ W.cell? ⟨b, ao + q * 5 + 3, none⟩ = some (.int .i64 (fr L q).t)) := fun W hW => by
          obtain ⟨b, ao, ea, c0, c1, c2, c3, c4⟩ := hW q hq
          exact ⟨b, ao, ea, c3⟩
        obtain ⟨b, ao, ea, _⟩ := HC.out w HL.out
        subst ea
        have HC2 : Hid (∀ W, FrsAt W (some ⟨b, ao, none⟩) L → W.cell? ⟨b, ao + q * 5 + 3, none⟩ = some (.int .i64 (fr L q).t)) := fun W hW => by
          obtain ⟨b', ao', ea, c3⟩ := HC.out W hW
          cases ea
          exact c3
        clear e h1 R hc hh HC ht h2
        generalize (fr L q).t = t at *
        obtain ⟨n, hn⟩ : ∃ n, L.length = n := ⟨_, rfl⟩
        rw [hn] at hN D DH hq hq2 ⊢
        clear hn
        by_cases h3 : t = 1000
        · rw [if_pos h3]
          subst h3
          go_enter Try.func14, Try.ntmps14
          go_wp2_with fail
          refine Calls.mono D.out ?_
          rintro e w1 ⟨rfl, hb1⟩
          have HB1 : Hid (Below w.heap.size w w1) := hb1
          have HL1 : Hid (FrsAt w1 (some ⟨b, ao, none⟩) L) := HL.out.below hb1
          clear hb1
          go_wp2_with fail
          refine Calls.mono (DH.out _ HL1.out) ?_
          rintro e w2 ⟨rfl, hw2⟩
          have hw3 := hw2.symm
          clear hw2
          subst hw3
          go_wp2_with fail
          refine Calls.mono (DI.out _) ?_
          rintro e w2 ⟨rfl, hw2⟩
          have hw3 := hw2.symm
          clear hw2
          subst hw3
          have c3 := HC2.out _ HL1.out
          go_wp2_with fail
          go_ret
          exact ⟨rfl, HB1.out⟩
        · rw [if_neg h3]
          have h4 : decide (t = 1000) = false := decide_eq_false h3
          have h5 : (t == 1000) = false := by simp [h3]
          go_enter Try.func14, Try.ntmps14
          go_wp2_with fail
          refine Calls.mono D.out ?_
          rintro e w1 ⟨rfl, hb1⟩
          have HB1 : Hid (Below w.heap.size w w1) := hb1
          have HL1 : Hid (FrsAt w1 (some ⟨b, ao, none⟩) L) := HL.out.below hb1
          clear hb1
          go_wp2_with fail
          refine Calls.mono (DH.out _ HL1.out) ?_
          rintro e w2 ⟨rfl, hw2⟩
          have hw3 := hw2.symm
          clear hw2
          subst hw3
          go_wp2_with fail
          refine Calls.mono (DI.out _) ?_
          rintro e w2 ⟨rfl, hw2⟩
          have hw3 := hw2.symm
          clear hw2
          subst hw3
          have c3 := HC2.out _ HL1.out
          go_wp2_with fail
          go_ret
          exact ⟨rfl, HB1.out⟩
      · rw [decide_eq_false h2] at DI
        have e : goE L q o = 2 := by unfold goE; rw [if_neg (not_not_intro h1), if_pos h2]
        rw [e]
        clear e h1 R hc hh h2
        obtain ⟨n, hn⟩ : ∃ n, L.length = n := ⟨_, rfl⟩
        rw [hn] at hN D DH hq hq2 ⊢
        clear hn
        go_enter Try.func14, Try.ntmps14
        go_wp2_with fail
        refine Calls.mono D.out ?_
        rintro e w1 ⟨rfl, hb1⟩
        have HB1 : Hid (Below w.heap.size w w1) := hb1
        have HL1 : Hid (FrsAt w1 a L) := HL.out.below hb1
        clear hb1
        go_wp2_with fail
        refine Calls.mono (DH.out _ HL1.out) ?_
        rintro e w2 ⟨rfl, hw2⟩
        have hw3 := hw2.symm
        clear hw2
        subst hw3
        go_wp2_with fail
        refine Calls.mono (DI.out _) ?_
        rintro e w2 ⟨rfl, hw2⟩
        have hw3 := hw2.symm
        clear hw2
        subst hw3
        go_wp2_with fail
        go_ret
        exact ⟨rfl, HB1.out⟩
    · have h1 : heldE L k = fholdsE L k := by unfold heldE; rw [if_pos hc]
      have e : goE L k o = fholdsE L k := by unfold goE; rw [h1, if_pos hh]
      rw [e]
      rw [hc] at D
      have e2 : decide (fholdsE L k = 0) = false := decide_eq_false hh
      have e3 : (fholdsE L k == 0) = false := by simp [hh]
      clear e h1 hc
      generalize fholdsE L k = E at *
      obtain ⟨n, hn⟩ : ∃ n, L.length = n := ⟨_, rfl⟩
      rw [hn] at hN D DH ⊢
      clear hn hh
      go_enter Try.func14, Try.ntmps14
      go_wp2_with fail
      refine Calls.mono D.out ?_
      rintro e w1 ⟨rfl, hb1⟩
      have HB1 : Hid (Below w.heap.size w w1) := hb1
      have HL1 : Hid (FrsAt w1 a L) := HL.out.below hb1
      clear hb1
      go_wp2_with fail
      refine Calls.mono (DH.out _ HL1.out) ?_
      rintro e w2 ⟨rfl, hw2⟩
      have hw3 := hw2.symm
      clear hw2
      subst hw3
      go_wp2_with fail
      go_ret
      exact ⟨rfl, HB1.out⟩
  · have h1 : heldE L k = fcheckE L := by unfold heldE; rw [if_neg hc]
    have e : goE L k o = fcheckE L := by unfold goE; rw [h1, if_pos hc]
    rw [e]
    have e2 : decide (fcheckE L = 0) = false := decide_eq_false hc
    have e3 : (fcheckE L == 0) = false := by simp [hc]
    clear e h1
    generalize fcheckE L = E at *
    obtain ⟨n, hn⟩ : ∃ n, L.length = n := ⟨_, rfl⟩
    rw [hn] at hN D DH ⊢
    clear hn hc
    go_enter Try.func14, Try.ntmps14
    go_wp2_with fail
    refine Calls.mono D.out ?_
    rintro e w1 ⟨rfl, hb1⟩
    have HB1 : Hid (Below w.heap.size w w1) := hb1
    clear hb1
    go_wp2_with fail
    go_ret
    exact ⟨rfl, HB1.out⟩

set_option maxRecDepth 100000 in
set_option maxHeartbeats 1000000 in
theorem go_err (a : Option Addr) (c : Nat) (L : List Fr) (k o : Int) (w : World) (hN : L.length ≤ 9223372036854775807) (hL : FrsAt w a L) (hE : goE L k o ≠ 0) :
    Calls Try.prog 5 #[.slice a L.length c, .int .i64 k, .int .i64 o] w fun e w' => e = .returned (.tuple #[.slice none 0 0, .int .i64 (goE L k o)]) ∧ Below w.heap.size w w' := by
  have D : Hid _ := checkGo_any a c L k o w hN hL
  have e2 : decide (goE L k o = 0) = false := decide_eq_false hE
  have e3 : (goE L k o == 0) = false := by simp [hE]
  clear hL
  generalize goE L k o = E at *
  generalize L.length = n at *
  go_enter Try.func5, Try.ntmps5
  go_wp2_with fail
  refine Calls.mono D.out ?_
  rintro e w1 ⟨rfl, hb1⟩
  have HB1 : Hid (Below w.heap.size w w1) := hb1
  clear hb1
  go_wp2_with fail
  exact bodyPost_ret (v := .tuple #[.slice none 0 0, .int .i64 E]) (by simp [results, Try.results5, go_sem]) rfl ⟨rfl, HB1.out⟩

/-- The first i of those that are in k, but k itself, are gone. -/
def goG (L : List Fr) (k : Nat) (i : Nat) : List Fr := (List.range L.length).map fun j => if j < i ∧ j ≠ k then { fr L j with g := (fr L j).g || inF L j k } else fr L j
theorem goG_len (L : List Fr) (k i : Nat) : (goG L k i).length = L.length := by unfold goG; simp
theorem goG_at {L : List Fr} {k i j : Nat} (h : j < L.length) : fr (goG L k i) j = if j < i ∧ j ≠ k then { fr L j with g := (fr L j).g || inF L j k } else fr L j := by
  rw [fr_elem (by rw [goG_len]; exact h)]
  unfold goG
  simp
theorem goRow_start {w : World} {g : Nat} {L : List Fr} {k : Nat} (h : RowG w g L.length L) : RowG w g L.length (goG L k 0) := by
  obtain ⟨F, h1, h2⟩ := h
  exact ⟨F, h1, fun m hm => (h2 m hm).trans (frF_congr (by rw [goG_at (by omega), if_neg (by omega)]))⟩
theorem goRow_no {w : World} {g i : Nat} {L : List Fr} {k : Nat} (h : RowG w g L.length (goG L k i)) (hi : i < L.length) (hin : i = k ∨ inF L i k = false) : RowG w g L.length (goG L k (i + 1)) := by
  obtain ⟨F, h1, h2⟩ := h
  refine ⟨F, h1, fun m hm => (h2 m hm).trans (frF_congr ?_)⟩
  rw [goG_at (by omega), goG_at (by omega)]
  by_cases e : m / 5 = i
  · rw [e, if_neg (by omega)]
    rcases hin with hin | hin
    · rw [if_neg (by omega)]
    · by_cases e3 : i = k
      · rw [if_neg (by omega)]
      · rw [if_pos (by omega), hin, Bool.or_false]
  · by_cases e2 : m / 5 < i ∧ m / 5 ≠ k
    · rw [if_pos e2, if_pos (by omega)]
    · rw [if_neg e2, if_neg (by omega)]
theorem goRow_yes {w : World} {g i : Nat} {L : List Fr} {k : Nat} (h : RowG w g L.length (goG L k i)) (hi : i < L.length) (hne : i ≠ k) (hin : inF L i k = true) : RowG (w.setCell ⟨g, i * 5 + 4, none⟩ (.bool true)) g L.length (goG L k (i + 1)) := by
  obtain ⟨F, h1, h2⟩ := h
  refine ⟨_, h1.set (i * 5 + 4) (.bool true), fun m hm => ?_⟩
  by_cases e : m = i * 5 + 4
  · subst e
    rw [if_pos rfl, frF_at _ _ 4 (by omega), goG_at hi, if_pos (by omega), hin, Bool.or_true]
    rfl
  · rw [if_neg e, h2 m hm]
    unfold frF
    rw [goG_at (by omega), goG_at (by omega)]
    by_cases e2 : m / 5 = i
    · rw [e2, if_neg (by omega), if_pos (by omega)]
      have e3 : m % 5 = 0 ∨ m % 5 = 1 ∨ m % 5 = 2 ∨ m % 5 = 3 := by omega
      rcases e3 with e3 | e3 | e3 | e3 <;> rw [e3] <;> rfl
    · by_cases e1 : m / 5 < i ∧ m / 5 ≠ k
      · rw [if_pos e1, if_pos (by omega)]
      · rw [if_neg e1, if_neg (by omega)]
theorem goRow_end {w : World} {g : Nat} {L : List Fr} {k : Nat} {o : Int} (h : RowG w g L.length (goG L k L.length)) (hk : k < L.length) :
    RowG ((w.setCell ⟨g, k * 5 + 1, none⟩ (.int .i64 o)).setCell ⟨g, k * 5 + 3, none⟩ (.int .i64 ((fr L k).t + 1))) g L.length (goF L k o) := by
  obtain ⟨F, h1, h2⟩ := h
  refine ⟨_, (h1.set (k * 5 + 1) (.int .i64 o)).set (k * 5 + 3) (.int .i64 ((fr L k).t + 1)), fun m hm => ?_⟩
  by_cases e : m = k * 5 + 3
  · subst e
    rw [if_pos rfl, frF_at _ _ 3 (by omega), go_self hk]
    rfl
  · rw [if_neg e]
    by_cases e1 : m = k * 5 + 1
    · subst e1
      rw [if_pos rfl, frF_at _ _ 1 (by omega), go_self hk]
      rfl
    · rw [if_neg e1, h2 m hm]
      unfold frF
      rw [goG_at (by omega)]
      by_cases e2 : m / 5 = k
      · rw [e2, if_neg (by omega), go_self hk]
        have e3 : m % 5 = 0 ∨ m % 5 = 2 ∨ m % 5 = 4 := by omega
        rcases e3 with e3 | e3 | e3 <;> rw [e3] <;> rfl
      · rw [if_pos (by omega), go_other (by omega) e2]

set_option maxRecDepth 100000 in
set_option maxHeartbeats 2000000 in
theorem go_ok (a : Option Addr) (c : Nat) (L : List Fr) (k o : Int) (w : World) (hL : FrsAt w a L) (hE : goE L k o = 0) :
    Calls Try.prog 5 #[.slice a L.length c, .int .i64 k, .int .i64 o] w fun e w' => ∃ g, e = .returned (.tuple #[.slice (some ⟨g, 0, none⟩) L.length L.length, .int .i64 0]) ∧ Below w.heap.size w w' ∧ w.heap.size ≤ g ∧ FrsAt w' (some ⟨g, 0, none⟩) (goF L k o) := by
  obtain ⟨hh, ho, ht⟩ := go_zero hE
  obtain ⟨R, q, rfl, hq, hg⟩ := held_zero hh
  have hN := R.few
  have d := checkGo_any a c L q o w (by omega) hL
  rw [hE] at d
  have D : Hid _ := d
  have HL : Hid (FrsAt w a L) := hL
  have ht1 : 0 ≤ (fr L q).t ∧ (fr L q).t ≤ 1000 := (frE_zero.1 (R.ok q hq)).2.1.2.2
  obtain ⟨b, ao, ea, c0, c1, c2, c3, c4⟩ := hL q hq
  subst ea
  clear c0 c1 c2 c3 c4 hg hE R d hL ho ht hh
  have DW : Hid (∀ (i : Nat) (W : World), FrsAt W (some ⟨b, ao, none⟩) L → _) := fun i W hW => fwithin_any (some ⟨b, ao, none⟩) c L (i : Int) (q : Int) W (by omega) hW
  obtain ⟨i0, hi0, hz0, hz1, hz2⟩ := info_parts infoFrame
  have hmk := makeFrames L.length (by omega)
  have SRC : Hid (∀ W, FrsAt W (some ⟨b, ao, none⟩) L → ∀ j v, (fcells L)[j]? = some v → W.cell? ((⟨b, ao, none⟩ : Addr).add j) = some v) := fun W hW => hW.src
  have ONE : Hid _ := fcells_one L
  have LEN : Hid ((fcells L).length = L.length * 5) := fcells_len L
  have CP : Hid (∀ (W : World) (g : Nat), W.heap[g]? = some (.cells (fcells L ++ (madeCells zeroFs (L.length * 5)).toList.drop (fcells L).length).toArray 29 (0, 0)) → RowG W g L.length (goG L q 0)) := fun W g hg => goRow_start (by obtain ⟨F, h1, h2⟩ := copied_row hg (Nat.le_refl _); exact ⟨F, h1, h2⟩)
  have YES : Hid (∀ (W : World) (g i : Nat), RowG W g L.length (goG L q i) → i < L.length → i ≠ q → inF L i q = true → RowG (W.setCell ⟨g, i * 5 + 4, none⟩ (.bool true)) g L.length (goG L q (i + 1))) := fun W g i h1 h2 h3 h4 => goRow_yes h1 h2 h3 h4
  have NO : Hid (∀ (W : World) (g i : Nat), RowG W g L.length (goG L q i) → i < L.length → (i = q ∨ inF L i q = false) → RowG W g L.length (goG L q (i + 1))) := fun W g i h1 h2 h3 => goRow_no h1 h2 h3
  have FIN : Hid (∀ (W : World) (g : Nat), RowG W g L.length (goG L q L.length) → FrsAt ((W.setCell ⟨g, q * 5 + 1, none⟩ (.int .i64 o)).setCell ⟨g, q * 5 + 3, none⟩ (.int .i64 ((fr L q).t + 1))) (some ⟨g, 0, none⟩) (goF L q o)) := fun W g h => by
    obtain ⟨F, h1, h2⟩ := goRow_end (o := o) h hq
    exact frs_of_row h1 (by rw [go_len]; exact Nat.le_refl _) (fun m hm => h2 m (by rw [go_len] at hm; exact hm))
  have CELL : Hid (∀ (W : World) (g i j : Nat) (M : List Fr), j < 5 → RowG W g L.length M → i < L.length → (∃ u, W.cell? ⟨g, i * 5 + j, none⟩ = some u) ∧ (∀ o, W.frozen? ⟨g, o, none⟩ = false) ∧ g < W.heap.size) := fun W g i j M hj ⟨F, h1, h2⟩ hi => ⟨⟨_, h1.cell (by omega)⟩, h1.frozen, h1.lt⟩
  have CELT : Hid (∀ (W : World) (g : Nat), RowG W g L.length (goG L q L.length) → W.cell? ⟨g, q * 5 + 3, none⟩ = some (.int .i64 (fr L q).t)) := fun W g ⟨F, h1, h2⟩ => by
    rw [h1.cell (by omega), h2 _ (by omega), frF_at _ _ 3 (by omega), goG_at hq, if_neg (by omega)]
    rfl
  generalize fcells L = cs at *
  generalize goF L q o = DF at *
  generalize (fr L q).t = t at *
  have hwt : IntKind.i64.wrap (t + 1) = t + 1 := by rw [IntKind.wrap_i64]; omega
  obtain ⟨n, hn⟩ : ∃ n, L.length = n := ⟨_, rfl⟩
  have HN : Hid (L.length = n) := hn
  rw [hn] at hN hq D DW hmk LEN CP YES NO FIN CELL CELT ⊢
  clear hn
  have hq2 : (q : Int) < (n : Int) := by omega
  go_enter Try.func5, Try.ntmps5
  go_wp2_with fail
  refine Calls.mono D.out ?_
  rintro e w1 ⟨rfl, hb1⟩
  have HB1 : Hid (Below w.heap.size w w1) := hb1
  have HL1 : Hid (FrsAt w1 (some ⟨b, ao, none⟩) L) := HL.out.below hb1
  clear hb1
  have HG : Hid ((w1.alloc (.cells (madeCells zeroFs (n * 5)) 29)).heap[w1.heap.size]? = some (.cells (madeCells zeroFs (n * 5)).toList.toArray 29 (0, 0))) := by
    have := heap_alloc_new w1 (.cells (madeCells zeroFs (n * 5)) 29)
    show _ = _
    simpa using this
  go_wp2_with (refine wpList_copy_wide rfl (.tmp 21) (.tmp 22) 22 22 rfl 29 i0 Try.underlying22 hi0 w1.heap.size 0 n n ⟨b, ao, none⟩ n c n ?hd ?hs (madeCells zeroFs (n * 5)).toList 29 ?hg cs ?hn ?hl ?hsrc ?hfit ?h1 ?_)
  case hd => rfl
  case hs => rfl
  case hg => exact HG.out
  case hn => show n = min n n; omega
  case hl => rw [LEN.out, hz1]
  case hsrc => exact SRC.out _ (HL1.out.below (one_belowS _ _))
  case hfit => rw [LEN.out]; simp [size_madeCells]
  case h1 => exact ONE.out
  intro w3 hg3 hb3
  have HB3 : Hid (Below w1.heap.size w1 w3) := hb3 _ _ (one_belowS w1 _) (Nat.le_refl _)
  have HR : Hid (RowG w3 w1.heap.size n (goG L q 0)) := CP.out w3 _ hg3
  clear hg3 hb3 HG
  go_wp2_with fail
  go_loopg [26] n (fun g s26 wr => ∃ i : Nat, i ≤ n ∧ n - i ≤ g ∧ s26 = .int .i64 i ∧ Hid (Below w1.heap.size w1 wr) ∧ Hid (RowG wr w1.heap.size n (goG L q i)))
  case atStart => exact ⟨0, by omega, by omega, rfl, HB3, HR⟩
  case round =>
    obtain ⟨i, hi, hg, rfl, HBr, HRi⟩ := hrel
    clear HR
    by_cases hlt : i < n
    · have hlt2 : (i : Int) < (n : Int) := by omega
      have DI := DW.out i wr (HL1.out.below HBr.out)
      obtain ⟨⟨u, hu⟩, hfz, hgl⟩ := CELL.out wr _ i 4 _ (by omega) HRi.out hlt
      by_cases hik : i = q
      · have HRN : Hid _ := NO.out wr _ i HRi.out hlt (Or.inl hik)
        subst hik
        clear DI
        go_wp2_with fail
        go_roundg (n - (i + 1))
        case measure => omega
        case rel => exact ⟨i + 1, by omega, by omega, by go_num, HBr, HRN⟩
      · have hik2 : decide ((i : Int) = (q : Int)) = false := decide_eq_false (by omega)
        have hik3 : ((i : Int) == (q : Int)) = false := by simp; omega
        have hik4 : decide (i = q) = false := decide_eq_false hik
        cases hin : inF L (i : Int) (q : Int) with
        | true =>
          rw [hin] at DI
          have DIH : Hid _ := DI
          have HRN : Hid _ := YES.out wr _ i HRi.out hlt hik hin
          clear hin DI
          go_wp2_with fail
          refine Calls.mono DIH.out ?_
          rintro e w4 ⟨rfl, hw4⟩
          have hw5 := hw4.symm
          clear hw4
          subst hw5
          go_wp2_with fail
          go_roundg (n - (i + 1))
          case measure => omega
          case rel => exact ⟨i + 1, by omega, by omega, by go_num, HBr.out.setCell (Nat.le_refl _) _, HRN⟩
        | false =>
          rw [hin] at DI
          have DIH : Hid _ := DI
          have HRN : Hid _ := NO.out wr _ i HRi.out hlt (Or.inr hin)
          clear hin DI
          go_wp2_with fail
          refine Calls.mono DIH.out ?_
          rintro e w4 ⟨rfl, hw4⟩
          have hw5 := hw4.symm
          clear hw4
          subst hw5
          go_wp2_with fail
          go_roundg (n - (i + 1))
          case measure => omega
          case rel => exact ⟨i + 1, by omega, by omega, by go_num, HBr, HRN⟩
    · have hie : i = n := by omega
      subst hie
      have HF : Hid _ := FIN.out wr _ HRi.out
      have ct := CELT.out wr _ HRi.out
      obtain ⟨⟨u, hu⟩, hfz, hgl⟩ := CELL.out wr _ q 1 _ (by omega) HRi.out hq
      have HB9 : Hid (Below w1.heap.size w1 ((wr.setCell ⟨w1.heap.size, q * 5 + 1, none⟩ (.int .i64 o)).setCell ⟨w1.heap.size, q * 5 + 3, none⟩ (.int .i64 (t + 1)))) := (HBr.out.setCell (Nat.le_refl _) _).setCell (Nat.le_refl _) _
      clear HRi
      go_wp2_with fail
      exact bodyPost_ret (v := .tuple #[.slice (some ⟨w1.heap.size, 0, none⟩) i i, .int .i64 0]) (by simp [results, Try.results5, go_sem]) rfl ⟨_, rfl, HB1.out.trans (HB9.out.mono HB1.out.size), HB1.out.size, HF.out⟩

theorem go_any : GoAns := fun a c L k o w hN hL => by
  by_cases hE : goE L k o = 0
  · have e : resG L k o = goF L k o := if_pos hE
    rw [e, hE]
    refine (go_ok a c L k o w hL hE).mono ?_
    rintro e w' ⟨g, rfl, hb, _, hF⟩
    exact ⟨_, _, by rw [go_len], hb, hF⟩
  · have e : resG L k o = [] := if_neg hE
    rw [e]
    refine (go_err a c L k o w hN hL hE).mono ?_
    rintro e w' ⟨rfl, hb⟩
    exact ⟨none, 0, rfl, hb, fun i hi => absurd hi (Nat.not_lt_zero _)⟩

set_option maxRecDepth 100000 in
set_option maxHeartbeats 1000000 in
theorem still_any : StillAns := fun a c L k t w hN hL => by
  have D : Hid _ := fholds_any a c L k w hN hL
  unfold stillF
  by_cases h : fholdsE L k = 0
  · obtain ⟨q, rfl, hq, _⟩ := holds_zero h
    rw [h] at D
    rw [decide_eq_true h, Bool.true_and, Int.toNat_natCast]
    obtain ⟨b, ao, ea, c0, c1, c2, c3, c4⟩ := hL q hq
    subst ea
    clear c0 c1 c2 c4 hL h
    have hq2 : (q : Int) < (L.length : Int) := by omega
    generalize (fr L q).t = x at *
    generalize L.length = n at *
    obtain ⟨r, hr⟩ : ∃ r, decide (x = t) = r := ⟨_, rfl⟩
    have hr2 : (x == t) = r := by rw [← hr]; by_cases e : x = t <;> simp [e]
    rw [hr]
    cases r
    all_goals
      go_enter Try.func9, Try.ntmps9
      go_wp2_with fail
      refine Calls.mono D.out ?_
      rintro e w1 ⟨rfl, hw1⟩
      have hw2 := hw1.symm
      clear hw1
      subst hw2
      go_wp2_with fail
      go_ret
      exact ⟨rfl, Below.refl _ _⟩
  · have e2 : decide (fholdsE L k = 0) = false := decide_eq_false h
    have e3 : (fholdsE L k == 0) = false := by simp [h]
    rw [e2, Bool.false_and]
    clear hL
    generalize fholdsE L k = E at *
    generalize L.length = n at *
    go_enter Try.func9, Try.ntmps9
    go_wp2_with fail
    refine Calls.mono D.out ?_
    rintro e w1 ⟨rfl, hw1⟩
    have hw2 := hw1.symm
    clear hw1
    subst hw2
    go_wp2_with fail
    go_ret
    exact ⟨rfl, Below.refl _ _⟩
end Go.Proofs.Ytbcgfhkhbbkhnaa
