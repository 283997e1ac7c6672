/-
  A store in memory of the call's own, and the contract of Copy.
-/
import Derived.Test.YtlgnapdhnlhkpaaUTaBeBf
import Derived.Test.YtlgnapdhnlhkpaaUSmBoSpLay
import Derived.BigQuiet
import Derived.Laws.StructEq
namespace Go.Proofs.Ytlgnapdhnlhkpaa
open Go.RowKit

/-- A node in a row F, its children in a row of their own. -/
def NdR (w : World) (F : Nat → Value) (o : Nat) (x : Nd) (kb kc : Nat) : Prop :=
  F o = .bool x.u ∧ F (o + 1) = .int .i64 x.n ∧ F (o + 2) = .int .i64 x.t ∧ F (o + 3) = .int .i64 x.m ∧ F (o + 4) = .int .i64 x.p ∧ F (o + 5) = .slice (some ⟨kb, 0, none⟩) x.ks.length kc ∧ F (o + 6) = .int .i64 x.h ∧ F (o + 7) = .bool x.c ∧
  x.ks.length ≤ kc ∧ kc ≤ 1000 ∧ ∃ G, w.rowIs kb 3 kc G ∧ ∀ j, j < x.ks.length → G j = .int .i64 (x.ks.getD j 0)

/-- A store in a row of the call's own; each list of children in a row of its own. -/
def Own (w : World) (B g : Nat) (S : List Nd) (kb kc : Nat → Nat) (k : Nat) : Prop :=
  B ≤ g ∧ ∃ F, w.rowIs g 47 (S.length * 8) F ∧ (∀ i, i < k → NdR w F (i * 8) (nd S i) (kb i) (kc i)) ∧ (∀ i, i < k → g < kb i) ∧ (∀ i, i < k → ∀ j, j < k → kb i = kb j → i = j)

theorem NdR.below {w w' : World} {F : Nat → Value} {o : Nat} {x : Nd} {kb kc B : Nat} (h : NdR w F o x kb kc) (hb : Below B w w') (hB : kb < B) : NdR w' F o x kb kc := by
  obtain ⟨e0, e1, e2, e3, e4, e5, e6, e7, e8, e8b, G, hG, e9⟩ := h
  exact ⟨e0, e1, e2, e3, e4, e5, e6, e7, e8, e8b, G, hG.of_block (hb.block kb hB), e9⟩

theorem NdR.row {w : World} {F : Nat → Value} {o : Nat} {x : Nd} {kb kc : Nat} (h : NdR w F o x kb kc) : kb < w.heap.size := by
  obtain ⟨_, _, _, _, _, _, _, _, _, _, G, hG, _⟩ := h
  exact hG.lt

theorem Own.nds {w : World} {B g : Nat} {S : List Nd} {kb kc : Nat → Nat} (h : Own w B g S kb kc S.length) : NdsAt w (some ⟨g, 0, none⟩) S := fun i hi => by
  obtain ⟨_, F, hF, hN, _, _⟩ := h
  obtain ⟨e0, e1, e2, e3, e4, e5, e6, e7, e8, e8b, G, hG, e9⟩ := hN i hi
  refine ⟨g, 0, rfl, ?_⟩
  rw [Nat.zero_add]
  refine ⟨?_, ?_, ?_, ?_, ?_, ⟨some ⟨kb i, 0, none⟩, kc i, ?_, fun j hj => ⟨kb i, 0, rfl, ?_⟩⟩, ?_, ?_⟩
  · rw [hF.cell (by omega), e0]
  · rw [hF.cell (by omega), e1]
  · rw [hF.cell (by omega), e2]
  · rw [hF.cell (by omega), e3]
  · rw [hF.cell (by omega), e4]
  · rw [hF.cell (by omega), e5]
  · rw [Nat.zero_add, hG.cell (by omega), e9 j hj]
  · rw [hF.cell (by omega), e6]
  · rw [hF.cell (by omega), e7]

def put8 (F : Nat → Value) (o : Nat) (v0 v1 v2 v3 v4 v5 v6 v7 : Value) : Nat → Value := fun j =>
  if j = o + 7 then v7 else if j = o + 6 then v6 else if j = o + 5 then v5 else if j = o + 4 then v4 else if j = o + 3 then v3 else if j = o + 2 then v2 else if j = o + 1 then v1 else if j = o then v0 else F j

theorem row_set8 {w : World} {g t n : Nat} {F : Nat → Value} (h : w.rowIs g t n F) (o : Nat) (v0 v1 v2 v3 v4 v5 v6 v7 : Value) :
    ((((((((w.setCell ⟨g, o, none⟩ v0).setCell ⟨g, o + 1, none⟩ v1).setCell ⟨g, o + 2, none⟩ v2).setCell ⟨g, o + 3, none⟩ v3).setCell ⟨g, o + 4, none⟩ v4).setCell ⟨g, o + 5, none⟩ v5).setCell ⟨g, o + 6, none⟩ v6).setCell ⟨g, o + 7, none⟩ v7).rowIs g t n (put8 F o v0 v1 v2 v3 v4 v5 v6 v7) :=
  (((((((h.set _ _).set _ _).set _ _).set _ _).set _ _).set _ _).set _ _).set _ _

theorem put8_other {F : Nat → Value} {o j : Nat} {v0 v1 v2 v3 v4 v5 v6 v7 : Value} (h : j < o ∨ o + 8 ≤ j) : put8 F o v0 v1 v2 v3 v4 v5 v6 v7 j = F j := by
  unfold put8
  rw [if_neg (by omega), if_neg (by omega), if_neg (by omega), if_neg (by omega), if_neg (by omega), if_neg (by omega), if_neg (by omega), if_neg (by omega)]

theorem NdR.put8_other {w : World} {F : Nat → Value} {o o' : Nat} {x : Nd} {kb kc : Nat} {v0 v1 v2 v3 v4 v5 v6 v7 : Value} (h : NdR w F o x kb kc) (ho : o + 8 ≤ o' ∨ o' + 8 ≤ o) : NdR w (put8 F o' v0 v1 v2 v3 v4 v5 v6 v7) o x kb kc := by
  obtain ⟨e0, e1, e2, e3, e4, e5, e6, e7, e8, e8b, G, hG, e9⟩ := h
  refine ⟨?_, ?_, ?_, ?_, ?_, ?_, ?_, ?_, e8, e8b, G, hG, e9⟩
  all_goals
    rw [Ytlgnapdhnlhkpaa.put8_other (by omega)]
    assumption

theorem NdR.put8_here {w : World} {F : Nat → Value} {o : Nat} {x : Nd} {kb kc : Nat} {G : Nat → Value} (hG : w.rowIs kb 3 kc G) (hl : x.ks.length ≤ kc) (hl2 : kc ≤ 1000) (hg : ∀ j, j < x.ks.length → G j = .int .i64 (x.ks.getD j 0)) :
    NdR w (put8 F o (.bool x.u) (.int .i64 x.n) (.int .i64 x.t) (.int .i64 x.m) (.int .i64 x.p) (.slice (some ⟨kb, 0, none⟩) x.ks.length kc) (.int .i64 x.h) (.bool x.c)) o x kb kc := by
  refine ⟨?_, ?_, ?_, ?_, ?_, ?_, ?_, ?_, hl, hl2, G, hG, hg⟩
  all_goals unfold put8
  · rw [if_neg (by omega), if_neg (by omega), if_neg (by omega), if_neg (by omega), if_neg (by omega), if_neg (by omega), if_neg (by omega), if_pos rfl]
  · rw [if_neg (by omega), if_neg (by omega), if_neg (by omega), if_neg (by omega), if_neg (by omega), if_neg (by omega), if_pos rfl]
  · rw [if_neg (by omega), if_neg (by omega), if_neg (by omega), if_neg (by omega), if_neg (by omega), if_pos rfl]
  · rw [if_neg (by omega), if_neg (by omega), if_neg (by omega), if_neg (by omega), if_pos rfl]
  · rw [if_neg (by omega), if_neg (by omega), if_neg (by omega), if_pos rfl]
  · rw [if_neg (by omega), if_neg (by omega), if_pos rfl]
  · rw [if_neg (by omega), if_pos rfl]
  · rw [if_pos rfl]

def zeroVs : Array Value := #[.bool false, .int .i64 0, .int .i64 0, .int .i64 0, .int .i64 0, .slice none 0 0, .int .i64 0, .bool false]
theorem info47 : (Try.prog.info? 47).map (fun i => (i.zero, i.size, i.bytes)) = some (some (.agg #[.bool false, .int .i64 0, .int .i64 0, .int .i64 0, .int .i64 0, .slice none 0 0, .int .i64 0, .bool false]), 8, 80) := by kernel_rfl

theorem makeNodes (n : Nat) (hn : n ≤ 24) (w : World) : (Instr.makeSlice 22 (.int .i64 (n : Int)) (.int .i64 (n : Int))).run Try.prog w = .ok (.slice (some ⟨w.heap.size, 0, none⟩) n n) (w.alloc (.cells (madeCells zeroVs (n * 8)) 47)) := by
  obtain ⟨i, hi, hz0, hz1, hz2⟩ := info_parts info47
  have h := run_make (P := Try.prog) w 22 47 i _ Try.underlying22 hi hz0 .i64 .i64 n n (by omega) (by omega) (by rw [hz2]; omega) (by omega)
  rw [hz1] at h
  simp only [Int.toNat_natCast] at h
  exact h

theorem row_madeNodes (w : World) (n : Nat) : (w.alloc (.cells (madeCells zeroVs (n * 8)) 47)).rowIs w.heap.size 47 (n * 8) (fun j => zeroVs[j % 8]!) := by
  have h := World.rowIs_alloc w (madeCells zeroVs (n * 8)) 47 (fun j => zeroVs[j % 8]!) (fun i hi => by rw [size_madeCells] at hi; simp [madeCells, hi, zeroVs])
  rw [size_madeCells] at h
  exact h
end Go.Proofs.Ytlgnapdhnlhkpaa

namespace Go.Proofs.Ytlgnapdhnlhkpaa
open Go.RowKit

def fitsB (S : List Nd) (ch pa : Nat) : Bool := decide ((nd S ch).h = -1) && (!decide ((pa : Int) = ch) && !underB S pa ch)

set_option maxHeartbeats 1000000 in
theorem fitsUnder_any (a : Option Addr) (c : Nat) (S : List Nd) (ch pa : Nat) (w : World) (hN : S.length ≤ 9223372036854775807) (hc : ch < S.length) (hS : NdsAt w a S) :
    Calls Try.prog 55 #[.agg #[.slice a S.length c], .int .i64 ch, .int .i64 pa] w fun e w' => e = .returned (.bool (fitsB S ch pa)) ∧ Below w.heap.size w w' := by
  unfold fitsB
  have du := fun (W : World) (hW : NdsAt W a S) => under_any a c S pa ch W hN hW
  have DU : Hid _ := du
  have HS : Hid (NdsAt w a S) := hS
  have hc2 : (ch : Int) < (S.length : Int) := by omega
  obtain ⟨b, o, rfl, c0, _, _, _, _, _, c6, _⟩ := hS ch hc
  have hbw := World.block_lt_of_cell? _ _ c0
  clear hS du
  generalize underB S pa ch = b3 at *
  generalize (nd S ch).h = hh at *
  generalize S.length = n at *
  by_cases h1 : hh = -1
  · subst h1
    by_cases h2 : (pa : Int) = ch
    · have e : decide ((pa : Int) = ch) = true := decide_eq_true h2
      have h3 : pa = ch := by omega
      subst h3
      rw [e]
      simp only [decide_true, Bool.not_true, Bool.false_and, Bool.and_false]
      go_enter Try.func55, Try.ntmps55
      go_wp2
      go_ret
      exact ⟨rfl, (Below.refl _ _).alloc (Nat.le_refl _) _⟩
    · have e : decide ((pa : Int) = ch) = false := decide_eq_false h2
      rw [e]
      have e1 : ((pa : Int) == (ch : Int)) = false := beq_eq_false_iff_ne.2 h2
      have e2 : ((pa : Int) != (ch : Int)) = true := by simp [bne, e1]
      have h2n : ¬ pa = ch := by omega
      simp only [decide_true, Bool.not_false, Bool.true_and]
      cases b3
      all_goals
        go_enter Try.func55, Try.ntmps55
        go_wp2_with (go_at_call 69; refine (DU.out _ (HS.out.below ((Below.refl _ _).alloc (Nat.le_refl _) _))).mono ?_; rintro e w1 ⟨rfl, hb1⟩)
        go_ret
        exact ⟨rfl, ((Below.refl _ _).alloc (Nat.le_refl _) _).trans (hb1.mono (by simp))⟩
  · have e : decide (hh = -1) = false := decide_eq_false h1
    have e1 : (hh == -1) = false := beq_eq_false_iff_ne.2 h1
    rw [e]
    simp only [Bool.false_and]
    go_enter Try.func55, Try.ntmps55
    go_wp2
    go_ret
    exact ⟨rfl, (Below.refl _ _).alloc (Nat.le_refl _) _⟩

set_option maxHeartbeats 1000000 in
theorem hasHand_any (ha : Option Addr) (hc : Nat) (hs : List (Int × Int)) (p u : Int) (w : World) (hL : hs.length ≤ 9223372036854775807) (hH : HandsAt w ha hs) :
    Calls Try.prog 70 #[.slice ha hs.length hc, .agg #[.int .i64 p, .int .i64 u]] w fun e w' => ∃ r : Int, e = .returned (.int .i64 r) ∧ Below w.heap.size w w' ∧ ((0 ≤ r) ↔ (p, u) ∈ hs) := by
  have HH : Hid (HandsAt w ha hs) := hH
  have IN : Hid (∀ k, k < hs.length → hs.getD k (0, 0) = (p, u) → (p, u) ∈ hs) := fun k hk h => by rw [← h, getD_elem hs _ hk]; exact List.getElem_mem hk
  have OUT : Hid ((∀ k, k < hs.length → hs.getD k (0, 0) ≠ (p, u)) → (p, u) ∉ hs) := fun h hm => by
    obtain ⟨i, hi, e⟩ := List.getElem_of_mem hm
    exact h i hi (by rw [getD_elem hs _ hi]; exact e)
  clear hH
  generalize hm : hs.length = m at *
  have HM : Hid _ := hm
  clear hm
  generalize ((p, u) ∈ hs) = Q at *
  go_enter Try.func70, Try.ntmps70
  go_wp2
  go_loopg [8] m (fun g s8 wr => ∃ k : Nat, k ≤ m ∧ m - k ≤ g ∧ s8 = .int .i64 k ∧ Below (w.heap.size + 1) (w.alloc (.cells #[.int .i64 p, .int .i64 u] 26)) wr ∧ Hid (∀ i, i < k → hs.getD i (0, 0) ≠ (p, u)))
  case atStart => exact ⟨0, by omega, by omega, rfl, Below.refl _ _, (show Hid _ from fun i hi => absurd hi (Nat.not_lt_zero _))⟩
  case round =>
    obtain ⟨k, hk, hg, rfl, hb, A⟩ := hrel
    have hB0 : Below w.heap.size w wr := ((Below.refl _ _).alloc (Nat.le_refl _) _).trans (hb.mono (by omega))
    have x0 : wr.cell? ⟨w.heap.size, 0, none⟩ = some (.int .i64 p) := (hb.cell (by simp)).trans (by go_simp)
    have x1 : wr.cell? ⟨w.heap.size, 1, none⟩ = some (.int .i64 u) := (hb.cell (by simp)).trans (by go_simp)
    by_cases hlt : k < m
    · have hlt2 : (k : Int) < (m : Int) := by omega
      obtain ⟨b, o, rfl, c0, c1⟩ := (HH.out.below hB0) k (by rw [HM.out]; exact hlt)
      generalize hy : hs.getD k (0, 0) = y at *
      obtain ⟨yp, yu⟩ := y
      dsimp only at c0 c1
      have HY : Hid _ := hy
      clear hy
      by_cases e1 : p = yp
      · by_cases e2 : u = yu
        · subst e1
          subst e2
          have Z : Hid _ := IN.out k hlt HY.out
          go_wp2_with fail
          go_quiet (fail)
          go_wp2
          go_ret
          exact ⟨k, rfl, Below.drewNs hB0 _, fun _ => Z.out, fun _ => by omega⟩
        · have e3 : (u == yu) = false := beq_eq_false_iff_ne.2 e2
          have NE : Hid ((yp, yu) ≠ (p, u)) := fun h => e2 (by cases h; rfl)
          subst e1
          go_wp2_with fail
          go_quiet (fail)
          go_wp2
          go_roundg (m - (k + 1))
          case measure => omega
          case rel =>
            refine ⟨k + 1, by omega, by omega, by go_num, Below.drewNs hb _, (show Hid _ from fun i hi => ?_)⟩
            by_cases e : i = k
            · rw [e, HY.out]; exact NE.out
            · exact A.out i (by omega)
      · have e3 : (p == yp) = false := beq_eq_false_iff_ne.2 e1
        have NE : Hid ((yp, yu) ≠ (p, u)) := fun h => e1 (by cases h; rfl)
        go_wp2_with fail
        go_quiet (fail)
        go_wp2
        go_roundg (m - (k + 1))
        case measure => omega
        case rel =>
          refine ⟨k + 1, by omega, by omega, by go_num, Below.drewNs hb _, (show Hid _ from fun i hi => ?_)⟩
          by_cases e : i = k
          · rw [e, HY.out]; exact NE.out
          · exact A.out i (by omega)
    · have : k = m := by omega
      subst this
      have Z : Hid _ := OUT.out A.out
      go_wp2
      go_ret
      exact ⟨-1, rfl, hB0, fun h => by omega, fun h => absurd h Z.out⟩
end Go.Proofs.Ytlgnapdhnlhkpaa
