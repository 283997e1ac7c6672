/-
  Rows of frames that a call makes; contracts of Length, Attach, Discard; slices.Equal over frames that read alike.
-/
import Derived.Test.YtbcgfhkhbbkhnaaJFc
import Derived.Test.YtbcgfhkhbbkhnaaJMw
namespace Go.Proofs.Ytbcgfhkhbbkhnaa
open Go.RowKit
set_option linter.unusedVariables false

theorem infoFrame : (Try.prog.info? 29).map (fun i => (i.zero, i.size, i.bytes)) = some (some (.agg #[.int .i64 0, .int .i64 0, .int .i64 0, .int .i64 0, .bool false]), 5, 40) := by kernel_rfl
def zeroFs : Array Value := #[.int .i64 0, .int .i64 0, .int .i64 0, .int .i64 0, .bool false]
theorem makeFrames (n : Nat) (hn : n ≤ 24) (w : World) : (Instr.makeSlice 22 (.int .i64 (n : Int)) (.int .i64 (n : Int))).run Try.prog w = .ok (.slice (some ⟨w.heap.size, 0, none⟩) n n) (w.alloc (.cells (madeCells zeroFs (n * 5)) 29)) := by
  obtain ⟨i, hi, hz0, hz1, hz2⟩ := info_parts infoFrame
  have h := run_make (P := Try.prog) w 22 29 i _ Try.underlying22 hi hz0 .i64 .i64 n n (by omega) (by omega) (by rw [hz2]; omega) (by omega)
  rw [hz1] at h
  simp only [Int.toNat_natCast] at h
  exact h

/-- The cells of a row of frames, by their number. -/
def cellF (x : Fr) : Nat → Value
  | 0 => .int .i64 x.p
  | 1 => .int .i64 x.o
  | 2 => .int .i64 x.m
  | 3 => .int .i64 x.t
  | _ => .bool x.g
def frF (L : List Fr) (m : Nat) : Value := cellF (fr L (m / 5)) (m % 5)
theorem frF_at (L : List Fr) (i j : Nat) (hj : j < 5) : frF L (i * 5 + j) = cellF (fr L i) j := by
  unfold frF
  rw [show (i * 5 + j) % 5 = j by omega, show (i * 5 + j) / 5 = i by omega]
theorem frF_congr {L M : List Fr} {m : Nat} (h : fr L (m / 5) = fr M (m / 5)) : frF L m = frF M m := by
  unfold frF
  rw [h]
theorem frF_one (L : List Fr) (m : Nat) : (frF L m).oneCell' = true := by
  unfold frF cellF
  split <;> rfl

theorem row_of {w : World} {g t : Nat} {X : List Value} (h : w.heap[g]? = some (.cells X.toArray t (0, 0))) : w.rowIs g t X.length (fun i => X.getD i (.bool false)) :=
  ⟨X.toArray, h, by simp, fun i hi => by simp [hi]⟩

theorem frs_of_row {w : World} {g N : Nat} {F : Nat → Value} {L : List Fr} (h : w.rowIs g 29 N F) (hl : L.length * 5 ≤ N) (hF : ∀ m, m < L.length * 5 → F m = frF L m) : FrsAt w (some ⟨g, 0, none⟩) L := fun i hi => by
  have hc : ∀ j, j < 5 → w.cell? ⟨g, 0 + i * 5 + j, none⟩ = some (frF L (i * 5 + j)) := fun j hj => by
    rw [Nat.zero_add, h.cell (by omega), hF _ (by omega)]
  refine ⟨g, 0, rfl, ?_, ?_, ?_, ?_, ?_⟩
  · have := hc 0 (by omega); rwa [frF_at L i 0 (by omega)] at this
  · have := hc 1 (by omega); rwa [frF_at L i 1 (by omega)] at this
  · have := hc 2 (by omega); rwa [frF_at L i 2 (by omega)] at this
  · have := hc 3 (by omega); rwa [frF_at L i 3 (by omega)] at this
  · have := hc 4 (by omega); rwa [frF_at L i 4 (by omega)] at this

/-- The cells of frames, as a list. -/
def fcells (L : List Fr) : List Value := (List.range (L.length * 5)).map (frF L)
theorem fcells_len (L : List Fr) : (fcells L).length = L.length * 5 := by unfold fcells; simp
theorem fcells_one (L : List Fr) : ∀ v ∈ fcells L, v.oneCell' = true := fun v hv => by
  unfold fcells at hv
  obtain ⟨m, _, rfl⟩ := List.mem_map.1 hv
  exact frF_one L m
theorem FrsAt.src {w : World} {b o : Nat} {L : List Fr} (h : FrsAt w (some ⟨b, o, none⟩) L) : ∀ j v, (fcells L)[j]? = some v → w.cell? ((⟨b, o, none⟩ : Addr).add j) = some v := fun j v hj => by
  unfold fcells at hj
  rw [List.getElem?_map] at hj
  have hlt : j < L.length * 5 := by
    rcases Nat.lt_or_ge j (L.length * 5) with h | h
    · exact h
    · rw [List.getElem?_eq_none (by simpa using h)] at hj; cases hj
  rw [List.getElem?_range hlt] at hj
  have hv : frF L j = v := by simpa using hj
  rw [Addr.add_lit, ← hv]
  obtain ⟨b', o', e, c0, c1, c2, c3, c4⟩ := h (j / 5) (by omega)
  cases e
  have hs : j % 5 = 0 ∨ j % 5 = 1 ∨ j % 5 = 2 ∨ j % 5 = 3 ∨ j % 5 = 4 := by omega
  rcases hs with e | e | e | e | e
  · have ej : j = j / 5 * 5 + 0 := by omega
    rw [ej, frF_at L (j / 5) 0 (by omega), ← ej, show o + j = o + j / 5 * 5 by omega]; exact c0
  · have ej : j = j / 5 * 5 + 1 := by omega
    rw [ej, frF_at L (j / 5) 1 (by omega), ← ej, show o + j = o + j / 5 * 5 + 1 by omega]; exact c1
  · have ej : j = j / 5 * 5 + 2 := by omega
    rw [ej, frF_at L (j / 5) 2 (by omega), ← ej, show o + j = o + j / 5 * 5 + 2 by omega]; exact c2
  · have ej : j = j / 5 * 5 + 3 := by omega
    rw [ej, frF_at L (j / 5) 3 (by omega), ← ej, show o + j = o + j / 5 * 5 + 3 by omega]; exact c3
  · have ej : j = j / 5 * 5 + 4 := by omega
    rw [ej, frF_at L (j / 5) 4 (by omega), ← ej, show o + j = o + j / 5 * 5 + 4 by omega]; exact c4
/-- What copy leaves in a row that was made. -/
theorem copied_row {w : World} {g N : Nat} {L : List Fr} (hg : w.heap[g]? = some (.cells (fcells L ++ (madeCells zeroFs N).toList.drop (fcells L).length).toArray 29 (0, 0))) (hl : L.length * 5 ≤ N) : ∃ F, w.rowIs g 29 N F ∧ ∀ m, m < L.length * 5 → F m = frF L m := by
  have h := row_of hg
  have hs : (fcells L ++ (madeCells zeroFs N).toList.drop (fcells L).length).length = N := by
    simp [fcells_len, size_madeCells]
    omega
  rw [hs] at h
  refine ⟨_, h, fun m hm => ?_⟩
  have hm2 : m < (fcells L).length := by rw [fcells_len]; exact hm
  have e : (fcells L)[m]? = some (frF L m) := by
    unfold fcells
    rw [List.getElem?_map, List.getElem?_range hm]
    rfl
  rw [List.getD_eq_getElem?_getD, List.getElem?_append_left hm2, e]
  rfl

set_option maxHeartbeats 1000000 in
theorem equalFrs_same (a a' : Option Addr) (c c' : Nat) (L : List Fr) (w : World) (hN : L.length ≤ 9223372036854775807) (h1 : FrsAt w a L) (h2 : FrsAt w a' L) :
    Calls Try.prog 8 #[.slice a L.length c, .slice a' L.length c'] w fun e w' => e = .returned (.bool true) ∧ Below w.heap.size w w' := by
  have H1 : Hid (FrsAt w a L) := h1
  have H2 : Hid (FrsAt w a' L) := h2
  clear h1 h2
  obtain ⟨n, hn⟩ : ∃ n, L.length = n := ⟨_, rfl⟩
  have HN : Hid (L.length = n) := hn
  rw [hn] at hN ⊢
  clear hn
  go_enter Try.func8, Try.ntmps8
  go_wp2
  go_loopg [13] n (fun g s13 wr => ∃ k : Nat, k ≤ n ∧ n - k ≤ g ∧ s13 = .int .i64 k ∧ Below w.heap.size w wr)
  case atStart => exact ⟨0, by omega, by omega, rfl, Below.refl _ _⟩
  case round =>
    obtain ⟨k, hk, hg, rfl, hb⟩ := hrel
    by_cases hlt : k < n
    · have hlt2 : (k : Int) < (n : Int) := by omega
      obtain ⟨b, o, rfl, c0, c1, c2, c3, c4⟩ := (H1.out.below hb) k (by rw [HN.out]; exact hlt)
      obtain ⟨b', o', rfl, e0, e1, e2, e3, e4⟩ := (H2.out.below hb) k (by rw [HN.out]; exact hlt)
      generalize fr L k = x at *
      obtain ⟨x0, x1, x2, x3, x4⟩ := x
      dsimp only at c0 c1 c2 c3 c4 e0 e1 e2 e3 e4
      go_wp2_with fail
      go_quiet (fail)
      go_wp2
      go_roundg (n - (k + 1))
      case measure => omega
      case rel => exact ⟨k + 1, by omega, by omega, by go_num, belowN hb _⟩
    · have : k = n := by omega
      subst this
      go_wp2
      go_ret
      exact ⟨rfl, hb⟩
end Go.Proofs.Ytbcgfhkhbbkhnaa
