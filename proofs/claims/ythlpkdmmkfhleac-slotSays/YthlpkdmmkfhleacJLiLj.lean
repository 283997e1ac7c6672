/-
  Slots and Given as the program tells them.
-/
import Derived.Test.YthlpkdmmkfhleacJLh
namespace Go.Proofs.Ythlpkdmmkfhleac
open Go.RowKit

set_option maxRecDepth 100000 in
set_option maxHeartbeats 1000000 in
theorem slots_err (a : Option Addr) (c : Nat) (S : List Nd) (p u E : Int) (w : World) (hN : S.length ≤ 9223372036854775807) (hB : Big S) (hS : NdsAt w a S) (hE : findE S p u = E) (hE0 : E ≠ 0) :
    Calls Try.prog 12 #[.agg #[.slice a S.length c], .agg #[.int .i64 p, .int .i64 u]] w fun e w' => e = .returned (.tuple #[.slice none 0 0, .int .i64 E]) ∧ Below w.heap.size w w' := by
  have D : Hid (∀ W, NdsAt W a S → Calls _ _ _ _ _) := fun W hW => find_err a c S p u E W hN hB hW hE hE0
  have HS : Hid (NdsAt w a S) := hS
  have e1 : (E == 0) = false := beq_eq_false_iff_ne.2 hE0
  have e2 : decide (E = 0) = false := decide_eq_false hE0
  clear hS hE hB
  generalize S.length = n at *
  go_enter Try.func12, Try.ntmps12
  go_wp2_with fail
  refine Calls.mono (D.out _ (HS.out.below (two_belowS _ _ _))) ?_
  rintro e w1 ⟨rfl, hb⟩
  have HB : Hid (Below w.heap.size w w1) := (two_belowS w _ _).trans (hb.mono (by simp; omega))
  clear hb
  go_wp2_with fail
  exact bodyPost_ret (v := .tuple #[.slice none 0 0, .int .i64 E]) (by simp [results, Try.results12, go_sem]) rfl ⟨rfl, HB.out.trans ((one_belowS _ _).mono HB.out.size)⟩

set_option maxRecDepth 100000 in
set_option maxHeartbeats 1000000 in
theorem slots_ok (a : Option Addr) (c : Nat) (S : List Nd) (k : Nat) (u : Int) (w : World) (wf : WF S) (hS : NdsAt w a S) (hk : k < S.length) (hE : findE S k u = 0) :
    Calls Try.prog 12 #[.agg #[.slice a S.length c], .agg #[.int .i64 (k : Int), .int .i64 u]] w fun e w' => ∃ v K, e = .returned (.tuple #[v, .int .i64 0]) ∧ Below w.heap.size w w' ∧ OwnS w.heap.size (slotsF S k) K v w' := by
  have hN := wf.small
  have D : Hid (∀ W, NdsAt W a S → Calls _ _ _ _ _) := fun W hW => find_ok a c S k u W (by omega) wf.big hW hk hE (by have := wf.kids_small hk; omega)
  have DG : Hid (∀ W, NdsAt W a S → Calls _ _ _ _ _) := fun W hW => slotsOf_all a c S k W wf hk hW
  have HS : Hid (NdsAt w a S) := hS
  clear hS hE wf
  generalize slotsF S k = F at *
  generalize nd S k = x at *
  obtain ⟨xu, xn, xt, xm, xp, xks, xh, xc⟩ := x
  generalize S.length = n at *
  dsimp only at D
  obtain ⟨xl, hxl⟩ : ∃ z, xks.length = z := ⟨_, rfl⟩
  rw [hxl] at D
  clear hxl
  go_enter Try.func12, Try.ntmps12
  go_wp2_with fail
  refine Calls.mono (D.out _ (HS.out.below (two_belowS _ _ _))) ?_
  rintro e w1 ⟨g, rfl, hb, _⟩
  have l0 := keepC (alloc_cell1 w #[.slice a n c] 24 0 (.cells #[.int .i64 (k : Int), .int .i64 u] 26) rfl) hb
  have l1 := keepC (alloc_cell2 w #[.int .i64 (k : Int), .int .i64 u] 26 0 (.cells #[.slice a n c] 24) rfl) hb
  have q0 := World.block_lt_of_cell? _ _ l0
  have q1 := World.block_lt_of_cell? _ _ l1
  have HB : Hid (Below w.heap.size w w1) := (two_belowS w _ _).trans (hb.mono (by simp; omega))
  clear hb D
  go_wp2_with fail
  refine Calls.mono (DG.out _ (HS.out.below (HB.out.trans ((one_belowS _ _).mono HB.out.size)))) ?_
  rintro e w2 ⟨v, K, rfl, hb, hO⟩
  have HB2 : Hid (Below w.heap.size w w2) := (HB.out.trans ((one_belowS _ _).mono HB.out.size)).trans (hb.mono (by have := HB.out.size; simp; omega))
  have HO : Hid (OwnS w.heap.size F K v w2) := OwnS.base hO (by have := HB.out.size; simp; omega)
  clear hb hO DG l0 l1
  go_wp2_with fail
  exact bodyPost_ret (v := .tuple #[v, .int .i64 0]) (by simp [results, Try.results12, go_sem]) rfl ⟨v, K, rfl, HB2.out, HO.out⟩

set_option maxRecDepth 100000 in
set_option maxHeartbeats 1000000 in
theorem given_err (a : Option Addr) (c : Nat) (S : List Nd) (p u E : Int) (w : World) (hN : S.length ≤ 9223372036854775807) (hB : Big S) (hS : NdsAt w a S) (hE : findE S p u = E) (hE0 : E ≠ 0) :
    Calls Try.prog 13 #[.agg #[.slice a S.length c], .agg #[.int .i64 p, .int .i64 u]] w fun e w' => e = .returned (.tuple #[.int .i64 0, .int .i64 E]) ∧ Below w.heap.size w w' := by
  have D : Hid (∀ W, NdsAt W a S → Calls _ _ _ _ _) := fun W hW => find_err a c S p u E W hN hB hW hE hE0
  have HS : Hid (NdsAt w a S) := hS
  have e1 : (E == 0) = false := beq_eq_false_iff_ne.2 hE0
  have e2 : decide (E = 0) = false := decide_eq_false hE0
  clear hS hE hB
  generalize S.length = n at *
  go_enter Try.func13, Try.ntmps13
  go_wp2_with fail
  refine Calls.mono (D.out _ (HS.out.below (two_belowS _ _ _))) ?_
  rintro e w1 ⟨rfl, hb⟩
  have HB : Hid (Below w.heap.size w w1) := (two_belowS w _ _).trans (hb.mono (by simp; omega))
  clear hb
  go_wp2_with fail
  exact bodyPost_ret (v := .tuple #[.int .i64 0, .int .i64 E]) (by simp [results, Try.results13, go_sem]) rfl ⟨rfl, HB.out.trans ((one_belowS _ _).mono HB.out.size)⟩
end Go.Proofs.Ythlpkdmmkfhleac

namespace Go.Proofs.Ythlpkdmmkfhleac
open Go.RowKit

/-- The slots that a node may be given to. -/
def slotsP (S : List Nd) (k : Nat) : List Slt := if (nd S k).p = -1 then [] else slotsF S (nd S k).p.toNat
def toL (L : List Slt) (k : Nat) : Int := match L.find? (fun s => decide ((k : Int) ∈ s.gv)) with | some s => s.pl | none => -1
def toF (S : List Nd) (k : Nat) : Int := toL (slotsP S k) k

theorem toL_some {L : List Slt} {k i : Nat} (hi : i < L.length) (h : (k : Int) ∈ (slt L i).gv) (hf : ∀ j, j < i → (k : Int) ∉ (slt L j).gv) : toL L k = (slt L i).pl := by
  unfold toL
  have e : L.find? (fun s => decide ((k : Int) ∈ s.gv)) = some (slt L i) := by
    rw [List.find?_eq_some_iff_getElem]
    refine ⟨decide_eq_true h, i, hi, (slt_elem hi).symm, fun j hj => ?_⟩
    have := hf j hj
    rw [slt_elem (by omega)] at this
    simp [this]
  rw [e]

theorem toL_none {L : List Slt} {k : Nat} (hf : ∀ j, j < L.length → (k : Int) ∉ (slt L j).gv) : toL L k = -1 := by
  unfold toL
  have e : L.find? (fun s => decide ((k : Int) ∈ s.gv)) = none := by
    rw [List.find?_eq_none]
    intro s hs
    obtain ⟨j, hj, rfl⟩ := List.getElem_of_mem hs
    have := hf j hj
    rw [slt_elem hj] at this
    simpa using this
  rw [e]

theorem slotsP_few {S : List Nd} (wf : WF S) (k : Nat) : (slotsP S k).length ≤ 24 := by
  unfold slotsP
  split
  · simp
  · exact slotsF_few wf _

theorem slotsP_gv {S : List Nd} (wf : WF S) {k i : Nat} (hk : k < S.length) (hi : i < (slotsP S k).length) : (slt (slotsP S k) i).gv.length ≤ 24 := by
  have hm : slt (slotsP S k) i ∈ slotsP S k := by rw [slt_elem hi]; exact List.getElem_mem hi
  generalize slt (slotsP S k) i = s at *
  unfold slotsP at hm
  split at hm
  · cases hm
  · rename_i hp
    obtain ⟨pa, e, hpa, _⟩ := wf.parent_place hk hp
    rw [e, Int.toNat_natCast] at hm
    obtain ⟨_, _, _, _, _, _, _, _, _, _, _, r6, _⟩ := slotsF_mem wf hm
    rcases r6 with e2 | e2
    · rw [e2]; simp
    · rw [e2]
      have h1 := wf.kids_small hpa
      unfold markedF flt
      exact Nat.le_trans (List.length_filter_le _ _) h1

theorem slotsP_any (a : Option Addr) (c : Nat) (S : List Nd) (k : Nat) (w : World) (wf : WF S) (hk : k < S.length) (hS : NdsAt w a S) :
    Calls Try.prog 47 #[.agg #[.slice a S.length c], .int .i64 (nd S k).p] w fun e w' => ∃ v K, e = .returned v ∧ Below w.heap.size w w' ∧ OwnS w.heap.size (slotsP S k) K v w' := by
  unfold slotsP
  by_cases hp : (nd S k).p = -1
  · rw [if_pos hp, hp]
    refine (slotsOf_no a c S (-1) w (by have := wf.small; omega) hS (by unfold rootE; rw [if_pos rfl])).mono fun e w' ⟨he, hb⟩ => ⟨_, fun _ => .slice none 0 0, he, hb, World.ownsRow_nil _ _ _ _, fun i hi => by cases hi⟩
  · rw [if_neg hp]
    obtain ⟨pa, e, hpa, _⟩ := wf.parent_place hk hp
    rw [e, Int.toNat_natCast]
    exact slotsOf_all a c S pa w wf hpa hS

set_option maxRecDepth 100000 in
set_option maxHeartbeats 1000000 in
theorem given_ok (a : Option Addr) (c : Nat) (S : List Nd) (k : Nat) (u : Int) (w : World) (wf : WF S) (hS : NdsAt w a S) (hk : k < S.length) (hE : findE S k u = 0) :
    Calls Try.prog 13 #[.agg #[.slice a S.length c], .agg #[.int .i64 (k : Int), .int .i64 u]] w fun e w' => e = .returned (.tuple #[.int .i64 (toF S k), .int .i64 0]) ∧ Below w.heap.size w w' := by
  have hN := wf.small
  have D : Hid (∀ W, NdsAt W a S → Calls _ _ _ _ _) := fun W hW => find_ok a c S k u W (by omega) wf.big hW hk hE (by have := wf.kids_small hk; omega)
  have DG : Hid (∀ W, NdsAt W a S → Calls _ _ _ _ _) := fun W hW => slotsP_any a c S k W wf hk hW
  have FW := slotsP_few wf k
  have GL : Hid (∀ i, i < (slotsP S k).length → (slt (slotsP S k) i).gv.length ≤ 24) := fun i hi => slotsP_gv wf hk hi
  have TF : Hid (toF S k = toL (slotsP S k) k) := (rfl : toF S k = _)
  have HS : Hid (NdsAt w a S) := hS
  clear hS hE wf
  generalize toF S k = R at *
  generalize slotsP S k = L at *
  generalize nd S k = x at *
  obtain ⟨xu, xn, xt, xm, xp, xks, xh, xc⟩ := x
  generalize S.length = n at *
  dsimp only at D DG
  obtain ⟨xl, hxl⟩ : ∃ z, xks.length = z := ⟨_, rfl⟩
  rw [hxl] at D
  clear hxl
  go_enter Try.func13, Try.ntmps13
  go_wp2_with fail
  refine Calls.mono (D.out _ (HS.out.below (two_belowS _ _ _))) ?_
  rintro e w1 ⟨g, rfl, hb, _⟩
  have l0 := keepC (alloc_cell1 w #[.slice a n c] 24 0 (.cells #[.int .i64 (k : Int), .int .i64 u] 26) rfl) hb
  have l1 := keepC (alloc_cell2 w #[.int .i64 (k : Int), .int .i64 u] 26 0 (.cells #[.slice a n c] 24) rfl) hb
  have q0 := World.block_lt_of_cell? _ _ l0
  have q1 := World.block_lt_of_cell? _ _ l1
  have HB : Hid (Below w.heap.size w w1) := (two_belowS w _ _).trans (hb.mono (by simp; omega))
  clear hb D
  go_wp2_with fail
  refine Calls.mono (DG.out _ (HS.out.below (HB.out.trans ((one_belowS _ _).mono HB.out.size)))) ?_
  rintro e w2 ⟨v, K, rfl, hb, hO⟩
  have HB2 : Hid (Below w.heap.size w w2) := (HB.out.trans ((one_belowS _ _).mono HB.out.size)).trans (hb.mono (by have := HB.out.size; simp; omega))
  have m1 := keepC (keepC l1 (one_belowS _ _)) hb
  obtain ⟨qa, qc, hv, hsl⟩ := OwnS.slts hO
  subst hv
  have HSL : Hid (SltsAt w2 qa L) := hsl
  obtain ⟨m, hm⟩ : ∃ z, L.length = z := ⟨_, rfl⟩
  have HM : Hid (L.length = m) := hm
  rw [hm] at FW GL ⊢
  clear hb hO DG l0 l1 q0 q1 hsl hm
  go_wp2_with fail
  go_loopg [24] m (fun g s24 wr => ∃ i : Nat, i ≤ m ∧ m - i ≤ g ∧ s24 = .int .i64 i ∧ Hid (Below w2.heap.size w2 wr) ∧ wr.cell? ⟨w.heap.size + 1, 0, none⟩ = some (.int .i64 (k : Int)) ∧ Hid (∀ j, j < i → (k : Int) ∉ (slt L j).gv))
  case atStart => exact ⟨0, by omega, by omega, rfl, Below.refl _ _, m1, fun j hj => absurd hj (Nat.not_lt_zero _)⟩
  case round =>
    obtain ⟨i, hi, hg, rfl, HB3, m2, NF⟩ := hrel
    clear m1
    have q2 := World.block_lt_of_cell? _ _ m2
    by_cases hlt : i < m
    · have hlt2 : (i : Int) < (m : Int) := by omega
      obtain ⟨b, o, ea, f0, f1, ga, gc, f2, hin⟩ := (HSL.out.below HB3.out) i (by rw [HM.out]; exact hlt)
      subst ea
      have gl := GL.out i hlt
      have TS : Hid ((k : Int) ∈ (slt L i).gv → R = (slt L i).pl) := fun h => TF.out.trans (toL_some (by rw [HM.out]; exact hlt) h NF.out)
      have CT : Hid (∀ W, IntsAt W ga (slt L i).gv → Calls _ _ _ _ _) := fun W hW => contains_any ga gc (slt L i).gv (k : Int) W (by omega) hW
      have HIN : Hid (IntsAt wr ga (slt L i).gv) := hin
      have NX : Hid ((k : Int) ∉ (slt L i).gv → ∀ j, j < i + 1 → (k : Int) ∉ (slt L j).gv) := fun h j hj => by
        by_cases e : j = i
        · subst e; exact h
        · exact NF.out j (by omega)
      clear hin NF
      generalize slt L i = s at *
      obtain ⟨spl, snum, sgv⟩ := s
      dsimp only at f0 f1 f2 TS CT HIN NX gl
      obtain ⟨sl, hsl⟩ : ∃ z, sgv.length = z := ⟨_, rfl⟩
      rw [hsl] at f2 CT
      clear hsl gl
      go_wp2_with fail
      refine Calls.mono (CT.out _ (HIN.out.below (one_belowS _ _))) ?_
      rintro e w4 ⟨rfl, hw4⟩
      subst hw4
      by_cases hin : (k : Int) ∈ sgv
      · rw [decide_eq_true hin]
        have HR : Hid (R = spl) := TS.out hin
        clear TS NX hin CT
        go_wp2_with fail
        exact bodyPost_ret (v := .tuple #[.int .i64 spl, .int .i64 0]) (by simp [results, Try.results13, go_sem]) rfl ⟨by rw [HR.out], (HB2.out.trans (HB3.out.mono HB2.out.size)).trans ((one_belowS _ _).mono (HB2.out.trans (HB3.out.mono HB2.out.size)).size)⟩
      · rw [decide_eq_false hin]
        have NX2 : Hid (∀ j, j < i + 1 → (k : Int) ∉ (slt L j).gv) := NX.out hin
        clear TS NX hin CT
        go_wp2_with fail
        go_roundg (m - (i + 1))
        case measure => omega
        case rel => exact ⟨i + 1, by omega, by omega, by go_num, HB3.out.trans ((one_belowS _ _).mono HB3.out.size), keepC m2 (one_belowS _ _), NX2⟩
    · have hie : i = m := by omega
      subst hie
      have HR : Hid (R = -1) := TF.out.trans (toL_none (fun j hj => NF.out j (by rw [← HM.out]; exact hj)))
      clear NF
      go_wp2_with fail
      exact bodyPost_ret (v := .tuple #[.int .i64 (-1), .int .i64 0]) (by simp [results, Try.results13, go_sem]) rfl ⟨by rw [HR.out], HB2.out.trans (HB3.out.mono HB2.out.size)⟩
end Go.Proofs.Ythlpkdmmkfhleac
