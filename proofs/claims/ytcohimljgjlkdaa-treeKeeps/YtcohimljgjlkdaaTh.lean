/-
  slices.Insert of one number into a row of the call's own: with room; and all of it together.
-/
import Derived.Test.YtcohimljgjlkdaaTg
namespace Go.Proofs.Ytcohimljgjlkdaa
open Go.RowKit

theorem insert1_room (kb L kc vb : Nat) (ks : List Int) (ch : Int) (w : World) (hL : ks.length = L) (hkc : L + 1 ≤ kc) (hsm : kc ≤ 1000000000) (G : Nat → Value) (hG : w.rowIs kb 3 kc G) (hGk : ∀ j, j < L → G j = .int .i64 (ks.getD j 0)) (hv : w.cell? ⟨vb, 0, none⟩ = some (.int .i64 ch)) :
    Calls Try.prog 75 #[.slice (some ⟨kb, 0, none⟩) L kc, .int .i64 L, .slice (some ⟨vb, 0, none⟩) 1 1] w (Inserted w kb (ins ks L ch)) := by
  have h := Any2.slices_Insert_int_end_room (P := Try.prog) (ρ := Try.lays21_ren) Try.lays21 kb 0 L kc vb 0 1 1 [.int .i64 ch] w (by omega) (by omega) (by omega) rfl
    (fun j hj => by rw [hG.cell (by omega)]; rfl) (fun j _ => hG.frozen _)
    (fun j v hj => by
      match j, hj with
      | 0, hj => simp at hj; subst hj; simpa using hv)
    (fun v hv => by simp at hv; subst hv; rfl)
  refine Calls.mono (show Calls Try.prog 75 _ _ _ from h) ?_
  rintro e w' ⟨rfl, rfl⟩
  have hl := ins_length ks L ch (by omega)
  refine ⟨kb, kc, by rw [hl, hL], by omega, Or.inl rfl, off_setCells (X := fun b => b = kb) rfl _ _ _, _, row_setCells _ _ _ _ hG, fun j hj => ?_⟩
  rw [hl, hL] at hj
  by_cases e : j = L
  · rw [if_pos (by simp; omega), e, ins_here ks L ch (by omega)]
    simp
  · rw [if_neg (by simp; omega), ins_low ks L j ch (by omega) (by omega), hGk j (by omega)]

theorem insert1_shift (kb L kc vb i : Nat) (ks : List Int) (ch : Int) (w : World) (hL : ks.length = L) (hi : i < L) (hkc : L + 1 ≤ kc) (hsm : kc ≤ 1000000000) (G : Nat → Value) (hG : w.rowIs kb 3 kc G) (hGk : ∀ j, j < L → G j = .int .i64 (ks.getD j 0)) (hvb : vb ≠ kb) (hv : w.heap[vb]? = some (.cells #[.int .i64 ch] 3 (0, 0))) :
    Calls Try.prog 75 #[.slice (some ⟨kb, 0, none⟩) L kc, .int .i64 i, .slice (some ⟨vb, 0, none⟩) 1 1] w (Inserted w kb (ins ks i ch)) := by
  have hvc : w.cell? ⟨vb, 0, none⟩ = some (.int .i64 ch) := by simp [World.cell?, hv]
  have hvf : ∀ o, w.frozen? ⟨vb, o, none⟩ = false := fun o => by simp [World.frozen?, hv]
  have hsb : w.shape? kb = some (3, kc) := by
    obtain ⟨c, hc, hs, _⟩ := hG
    simp [World.shape?, hc, hs]
  have h := Any2.slices_Insert_int_shift (P := Try.prog) (ρ := Try.lays21_ren) Try.lays21 kb 0 L kc i vb 0 1 1 (ks.map (Value.int .i64)) [.int .i64 ch] w hi (by omega) (by omega) (by omega) hvb (by simpa using hL) rfl
    (fun j v hj => by
      obtain ⟨h1, rfl⟩ := ints_get hj
      rw [Nat.zero_add, hG.cell (by omega), hGk j (by omega)])
    (fun j hj => by rw [hG.cell (by omega)]; rfl) (fun j _ => hG.frozen _)
    (fun j v hj => by
      match j, hj with
      | 0, hj => simp at hj; subst hj; simpa using hvc)
    (fun v hv => by simp at hv; obtain ⟨y, _, rfl⟩ := hv; rfl) (fun v hv => by simp at hv; subst hv; rfl)
    3 3 1 kc (by simp [World.shape?, hv]) hsb (by omega) (hvf _) (hvf _)
  refine Calls.mono (show Calls Try.prog 75 _ _ _ from h) ?_
  rintro e w' ⟨rfl, rfl⟩
  have hl := ins_length ks i ch (by omega)
  refine ⟨kb, kc, by rw [hl, hL], by omega, Or.inl rfl, (Off.refl _ _).drew.trans ((off_setCells (X := fun b => b = kb) rfl _ _ _).trans (off_setCells (X := fun b => b = kb) rfl _ _ _)), _, row_setCells _ _ _ _ (row_setCells _ _ _ _ hG.drew), fun j hj => ?_⟩
  rw [hl, hL] at hj
  have hdl : ((ks.map (Value.int .i64)).drop i).length = L - i := by simp [hL]
  by_cases h2 : j = i
  · subst h2
    rw [if_pos (by simp), ins_here ks j ch (by omega)]
    simp
  · rw [if_neg (by simp; omega)]
    by_cases h1 : i < j
    · rw [if_pos (by rw [hdl]; omega), ins_high ks i j ch (by omega) h1, getD_elem ks 0 (by omega)]
      simp [List.getD]
      rw [show i + (j - (i + 1)) = j - 1 by omega]
      simp [show j - 1 < ks.length by omega]
    · rw [if_neg (by omega), ins_low ks i j ch (by omega) (by omega), hGk j (by omega)]

theorem insert1_any (kb L kc vb i : Nat) (ks : List Int) (ch : Int) (w : World) (hL : ks.length = L) (hi : i ≤ L) (hkc : L ≤ kc) (hsm : kc ≤ 1000) (G : Nat → Value) (hG : w.rowIs kb 3 kc G) (hGk : ∀ j, j < L → G j = .int .i64 (ks.getD j 0)) (hvb : vb ≠ kb) (hv : w.heap[vb]? = some (.cells #[.int .i64 ch] 3 (0, 0))) :
    Calls Try.prog 75 #[.slice (some ⟨kb, 0, none⟩) L kc, .int .i64 i, .slice (some ⟨vb, 0, none⟩) 1 1] w (Inserted w kb (ins ks i ch)) := by
  have hvc : w.cell? ⟨vb, 0, none⟩ = some (.int .i64 ch) := by simp [World.cell?, hv]
  by_cases h1 : i = L
  · subst h1
    by_cases h2 : kc = i
    · exact insert1_end kb i kc vb ks ch w hL h2 (by omega) G hG hGk hvc
    · exact insert1_room kb i kc vb ks ch w hL (by omega) (by omega) G hG hGk hvc
  · by_cases h2 : kc = L
    · exact insert1_grow kb L kc vb i ks ch w hL (by omega) h2 (by omega) G hG hGk hvc
    · exact insert1_shift kb L kc vb i ks ch w hL (by omega) (by omega) (by omega) G hG hGk hvb hv
end Go.Proofs.Ytcohimljgjlkdaa
