/-
  Contract of Discard.
-/
import Derived.Test.YtfgjlfilmbobbaaRFd
namespace Go.Proofs.Ytfgjlfilmbobbaa
open Go.RowKit
set_option linter.unusedVariables false

set_option maxRecDepth 100000 in
set_option maxHeartbeats 1000000 in
theorem discard_err (a : Option Addr) (c : Nat) (L : List Fr) (k : Int) (w : World) (hN : L.length ≤ 9223372036854775807) (hL : FrsAt w a L) (hE : heldE L k ≠ 0) :
    Calls Try.prog 12 #[.slice a L.length c, .int .i64 k] w fun e w' => e = .returned (.tuple #[.slice none 0 0, .int .i64 (heldE L k)]) ∧ Below w.heap.size w w' := by
  have D : Hid _ := checkHeld_any a c L k w hN hL
  have e2 : decide (heldE L k = 0) = false := decide_eq_false hE
  clear hL
  generalize heldE L k = E at *
  generalize L.length = n at *
  go_enter Try.func12, Try.ntmps12
  go_wp2_with fail
  refine Calls.mono D.out ?_
  rintro e w1 ⟨rfl, hb1⟩
  have HB1 : Hid (Below w.heap.size w w1) := hb1
  clear hb1
  go_wp2_with fail
  exact bodyPost_ret (v := .tuple #[.slice none 0 0, .int .i64 E]) (by simp [results, Try.results12, go_sem]) rfl ⟨rfl, HB1.out⟩

/-- The first i of those that are in k are gone. -/
def disG (L : List Fr) (k : Int) (i : Nat) : List Fr := (List.range L.length).map fun j => if j < i then { fr L j with g := (fr L j).g || inF L j k } else fr L j
theorem disG_len (L : List Fr) (k : Int) (i : Nat) : (disG L k i).length = L.length := by unfold disG; simp
theorem disG_at {L : List Fr} {k : Int} {i j : Nat} (h : j < L.length) : fr (disG L k i) j = if j < i then { fr L j with g := (fr L j).g || inF L j k } else fr L j := by
  rw [fr_elem (by rw [disG_len]; exact h)]
  unfold disG
  simp
theorem disG_end (L : List Fr) (k : Int) : disG L k L.length = disF L k := by
  refine fr_ext (by rw [disG_len, dis_len]) (fun i hi => ?_)
  rw [disG_len] at hi
  rw [disG_at hi, if_pos hi, dis_at hi]
def RowG (w : World) (g n : Nat) (L : List Fr) : Prop := ∃ F, w.rowIs g 34 (n * 5) F ∧ ∀ m, m < n * 5 → F m = frF L m
theorem RowG.start {w : World} {g : Nat} {L : List Fr} {k : Int} (h : RowG w g L.length L) : RowG w g L.length (disG L k 0) := by
  obtain ⟨F, h1, h2⟩ := h
  exact ⟨F, h1, fun m hm => (h2 m hm).trans (frF_congr (by rw [disG_at (by omega), if_neg (by omega)]))⟩
theorem RowG.no {w : World} {g i : Nat} {L : List Fr} {k : Int} (h : RowG w g L.length (disG L k i)) (hi : i < L.length) (hin : inF L i k = false) : RowG w g L.length (disG L k (i + 1)) := by
  obtain ⟨F, h1, h2⟩ := h
  refine ⟨F, h1, fun m hm => (h2 m hm).trans (frF_congr ?_)⟩
  rw [disG_at (by omega), disG_at (by omega)]
  by_cases e : m / 5 < i
  · rw [if_pos e, if_pos (by omega)]
  · by_cases e2 : m / 5 = i
    · rw [e2, if_neg (by omega), if_pos (by omega), hin, Bool.or_false]
    · rw [if_neg e, if_neg (by omega)]
theorem RowG.yes {w : World} {g i : Nat} {L : List Fr} {k : Int} (h : RowG w g L.length (disG L k i)) (hi : i < L.length) (hin : inF L i k = true) : RowG (w.setCell ⟨g, i * 5 + 4, none⟩ (.bool true)) g L.length (disG L k (i + 1)) := by
  obtain ⟨F, h1, h2⟩ := h
  refine ⟨_, h1.set (i * 5 + 4) (.bool true), fun m hm => ?_⟩
  by_cases e : m = i * 5 + 4
  · subst e
    rw [if_pos rfl, frF_at _ _ 4 (by omega), disG_at hi, if_pos (by omega), hin, Bool.or_true]
    rfl
  · rw [if_neg e, h2 m hm]
    unfold frF
    rw [disG_at (by omega), disG_at (by omega)]
    by_cases e1 : m / 5 < i
    · rw [if_pos e1, if_pos (by omega)]
    · by_cases e2 : m / 5 = i
      · rw [e2, if_neg (by omega), if_pos (by omega)]
        have e3 : m % 5 = 0 ∨ m % 5 = 1 ∨ m % 5 = 2 ∨ m % 5 = 3 := by omega
        rcases e3 with e3 | e3 | e3 | e3 <;> rw [e3] <;> rfl
      · rw [if_neg e1, if_neg (by omega)]
theorem RowG.kept {w w' : World} {g n : Nat} {L : List Fr} (h : RowG w g n L) (e : w'.heap[g]? = w.heap[g]?) : RowG w' g n L := by
  obtain ⟨F, h1, h2⟩ := h
  exact ⟨F, h1.of_block e, h2⟩

set_option maxRecDepth 100000 in
set_option maxHeartbeats 2000000 in
theorem discard_ok (a : Option Addr) (c : Nat) (L : List Fr) (k : Int) (w : World) (hN : L.length ≤ 8) (hL : FrsAt w a L) (hE : heldE L k = 0) :
    Calls Try.prog 12 #[.slice a L.length c, .int .i64 k] w fun e w' => ∃ g, e = .returned (.tuple #[.slice (some ⟨g, 0, none⟩) L.length L.length, .int .i64 0]) ∧ Below w.heap.size w w' ∧ w.heap.size ≤ g ∧ FrsAt w' (some ⟨g, 0, none⟩) (disF L k) := by
  have d := checkHeld_any a c L k w (by omega) hL
  rw [hE] at d
  have D : Hid _ := d
  obtain ⟨R, q, rfl, hq, hg⟩ := held_zero hE
  have HL : Hid (FrsAt w a L) := hL
  obtain ⟨b, ao, ea, c0, c1, c2, c3, c4⟩ := hL q hq
  subst ea
  clear c0 c1 c2 c3 c4 hg hE R d hL hq
  have DW : Hid (∀ (i : Nat) (W : World), FrsAt W (some ⟨b, ao, none⟩) L → _) := fun i W hW => fwithin_any (some ⟨b, ao, none⟩) c L (i : Int) (q : Int) W (by omega) hW
  obtain ⟨i0, hi0, hz0, hz1, hz2⟩ := info_parts infoFrame
  have hmk := makeFrames L.length (by omega)
  have SRC : Hid (∀ W, FrsAt W (some ⟨b, ao, none⟩) L → ∀ j v, (fcells L)[j]? = some v → W.cell? ((⟨b, ao, none⟩ : Addr).add j) = some v) := fun W hW => hW.src
  have ONE : Hid _ := fcells_one L
  have LEN : Hid ((fcells L).length = L.length * 5) := fcells_len L
  have CP : Hid (∀ (W : World) (g : Nat), W.heap[g]? = some (.cells (fcells L ++ (madeCells zeroFs (L.length * 5)).toList.drop (fcells L).length).toArray 34 (0, 0)) → RowG W g L.length (disG L q 0)) := fun W g hg => RowG.start (by obtain ⟨F, h1, h2⟩ := copied_row hg (Nat.le_refl _); exact ⟨F, h1, h2⟩)
  have YES : Hid (∀ (W : World) (g i : Nat), RowG W g L.length (disG L q i) → i < L.length → inF L i q = true → RowG (W.setCell ⟨g, i * 5 + 4, none⟩ (.bool true)) g L.length (disG L q (i + 1))) := fun W g i h1 h2 h3 => h1.yes h2 h3
  have NO : Hid (∀ (W : World) (g i : Nat), RowG W g L.length (disG L q i) → i < L.length → inF L i q = false → RowG W g L.length (disG L q (i + 1))) := fun W g i h1 h2 h3 => h1.no h2 h3
  have FIN : Hid (∀ (W : World) (g : Nat), RowG W g L.length (disG L q L.length) → FrsAt W (some ⟨g, 0, none⟩) (disF L q)) := fun W g ⟨F, h1, h2⟩ => by
    rw [disG_end] at h2
    exact frs_of_row h1 (by rw [dis_len]; exact Nat.le_refl _) (fun m hm => h2 m (by rw [dis_len] at hm; exact hm))
  have CELL : Hid (∀ (W : World) (g i : Nat) (M : List Fr), RowG W g L.length M → i < L.length → (∃ u, W.cell? ⟨g, i * 5 + 4, none⟩ = some u) ∧ (∀ o, W.frozen? ⟨g, o, none⟩ = false) ∧ g < W.heap.size) := fun W g i M ⟨F, h1, h2⟩ hi => ⟨⟨_, h1.cell (by omega)⟩, h1.frozen, h1.lt⟩
  generalize fcells L = cs at *
  generalize disF L q = DF at *
  obtain ⟨n, hn⟩ : ∃ n, L.length = n := ⟨_, rfl⟩
  have HN : Hid (L.length = n) := hn
  rw [hn] at hN D DW hmk LEN CP YES NO FIN CELL ⊢
  clear hn
  go_enter Try.func12, Try.ntmps12
  go_wp2_with fail
  refine Calls.mono D.out ?_
  rintro e w1 ⟨rfl, hb1⟩
  have HB1 : Hid (Below w.heap.size w w1) := hb1
  have HL1 : Hid (FrsAt w1 (some ⟨b, ao, none⟩) L) := HL.out.below hb1
  clear hb1
  have HG : Hid ((w1.alloc (.cells (madeCells zeroFs (n * 5)) 34)).heap[w1.heap.size]? = some (.cells (madeCells zeroFs (n * 5)).toList.toArray 34 (0, 0))) := by
    have := heap_alloc_new w1 (.cells (madeCells zeroFs (n * 5)) 34)
    show _ = _
    simpa using this
  go_wp2_with (refine wpList_copy_wide rfl (.tmp 18) (.tmp 19) 22 22 rfl 34 i0 Try.underlying22 hi0 w1.heap.size 0 n n ⟨b, ao, none⟩ n c n ?hd ?hs (madeCells zeroFs (n * 5)).toList 34 ?hg cs ?hn ?hl ?hsrc ?hfit ?h1 ?_)
  case hd => rfl
  case hs => rfl
  case hg => exact HG.out
  case hn => show n = min n n; omega
  case hl => rw [LEN.out, hz1]
  case hsrc => exact SRC.out _ (HL1.out.below (one_belowS _ _))
  case hfit => rw [LEN.out]; simp [size_madeCells]
  case h1 => exact ONE.out
  intro w3 hg3 hb3
  have HB3 : Hid (Below w1.heap.size w1 w3) := hb3 _ _ (one_belowS w1 _) (Nat.le_refl _)
  have HR : Hid (RowG w3 w1.heap.size n (disG L q 0)) := CP.out w3 _ hg3
  clear hg3 hb3 HG
  go_wp2_with fail
  go_loopg [23] n (fun g s23 wr => ∃ i : Nat, i ≤ n ∧ n - i ≤ g ∧ s23 = .int .i64 i ∧ Hid (Below w1.heap.size w1 wr) ∧ Hid (RowG wr w1.heap.size n (disG L q i)))
  case atStart => exact ⟨0, by omega, by omega, rfl, HB3, HR⟩
  case round =>
    obtain ⟨i, hi, hg, rfl, HBr, HRi⟩ := hrel
    clear HR
    by_cases hlt : i < n
    · have hlt2 : (i : Int) < (n : Int) := by omega
      have DI := DW.out i wr (HL1.out.below HBr.out)
      obtain ⟨⟨u, hu⟩, hfz, hgl⟩ := CELL.out wr _ i _ HRi.out hlt
      cases hin : inF L (i : Int) (q : Int) with
      | true =>
        rw [hin] at DI
        have DIH : Hid _ := DI
        have HRN : Hid _ := YES.out wr _ i HRi.out hlt hin
        clear hin DI
        go_wp2_with fail
        refine Calls.mono DIH.out ?_
        rintro e w4 ⟨rfl, hw4⟩
        have hw5 := hw4.symm
        clear hw4
        subst hw5
        go_wp2_with fail
        go_roundg (n - (i + 1))
        case measure => omega
        case rel => exact ⟨i + 1, by omega, by omega, by go_num, HBr.out.setCell (Nat.le_refl _) _, HRN⟩
      | false =>
        rw [hin] at DI
        have DIH : Hid _ := DI
        have HRN : Hid _ := NO.out wr _ i HRi.out hlt hin
        clear hin DI
        go_wp2_with fail
        refine Calls.mono DIH.out ?_
        rintro e w4 ⟨rfl, hw4⟩
        have hw5 := hw4.symm
        clear hw4
        subst hw5
        go_wp2_with fail
        go_roundg (n - (i + 1))
        case measure => omega
        case rel => exact ⟨i + 1, by omega, by omega, by go_num, HBr, HRN⟩
    · have hie : i = n := by omega
      subst hie
      have HF : Hid _ := FIN.out wr _ HRi.out
      clear HRi
      go_wp2_with fail
      exact bodyPost_ret (v := .tuple #[.slice (some ⟨w1.heap.size, 0, none⟩) i i, .int .i64 0]) (by simp [results, Try.results12, go_sem]) rfl ⟨_, rfl, HB1.out.trans (HBr.out.mono HB1.out.size), HB1.out.size, HF.out⟩

/-- What is answered. -/
def resD (L : List Fr) (k : Int) : List Fr := if heldE L k = 0 then disF L k else []
theorem discard_any (a : Option Addr) (c : Nat) (L : List Fr) (k : Int) (w : World) (hN : L.length ≤ 9223372036854775807) (hL : FrsAt w a L) :
    Calls Try.prog 12 #[.slice a L.length c, .int .i64 k] w fun e w' => ∃ va vc, e = .returned (.tuple #[.slice va (resD L k).length vc, .int .i64 (heldE L k)]) ∧ Below w.heap.size w w' ∧ FrsAt w' va (resD L k) ∧ (resD L k).length ≤ vc := by
  by_cases hE : heldE L k = 0
  · have e : resD L k = disF L k := if_pos hE
    rw [e, hE]
    refine (discard_ok a c L k w (held_zero hE).1.few hL hE).mono ?_
    rintro e w' ⟨g, rfl, hb, _, hF⟩
    exact ⟨_, _, by rw [dis_len], hb, hF, by rw [dis_len]; exact Nat.le_refl _⟩
  · have e : resD L k = [] := if_neg hE
    rw [e]
    refine (discard_err a c L k w hN hL hE).mono ?_
    rintro e w' ⟨rfl, hb⟩
    exact ⟨none, 0, rfl, hb, fun i hi => absurd hi (Nat.not_lt_zero _), by simp⟩

def resL (L : List Fr) (k : Int) : Int := if heldE L k = 0 then (lenF L k : Nat) else 0
end Go.Proofs.Ytfgjlfilmbobbaa
