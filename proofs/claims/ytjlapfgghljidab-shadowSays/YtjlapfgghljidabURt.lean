/-
  The walk of ShadowSays.
-/
import Derived.Test.YtjlapfgghljidabURsWeRc
import Derived.Test.YtjlapfgghljidabURzRaRbRhRdRe
import Derived.Test.YtjlapfgghljidabUZiZk
import Derived.Deep.RegionHeld3
import Derived.Deep.RegionWith
import Derived.Deep.DeepCutAuto
namespace Go.Proofs.Ytjlapfgghljidab
open Go.RowKit

set_option maxRecDepth 100000 in
set_option maxHeartbeats 8000000 in
theorem shadow_any (a : Option Addr) (c : Nat) (S : List Nd) (p u : Int) (cl : Bool) (q v : Int) (w : World) (hN : S.length ≤ 9223372036854775807) (hB : Big S) (hS : NdsAt w a S) (hC : ∀ a c, RChk a c S) :
    Calls Try.prog 6 #[.agg #[.slice a S.length c], .agg #[.int .i64 p, .int .i64 u], .bool cl, .agg #[.int .i64 q, .int .i64 v]] w fun e w' => e = .returned (.bool true) ∧ Below w.heap.size w w' := by
  obtain ⟨T, kp, ku, E1, tl, tb, DA, DA'⟩ := attach_both S p u cl hN hB hC
  obtain ⟨SB, E2, DS, DS'⟩ := seen_both S p u q v hN hB hC
  obtain ⟨L, ll, lp, ln, DP⟩ := path_all S p u hN hB
  have D1 : Hid (∀ W, NdsAt W a S → Calls Try.prog 25 #[.agg #[.slice a S.length c], .agg #[.int .i64 p, .int .i64 u], .bool cl] W _) := fun W hW => DA a c W hW
  have D2 : Hid (∀ W, NdsAt W a S → Calls Try.prog 26 #[.agg #[.slice a S.length c], .agg #[.int .i64 p, .int .i64 u], .agg #[.int .i64 q, .int .i64 v]] W _) := fun W hW => DS a c W hW
  have D3 : Hid (∀ W, NdsAt W a S → Calls Try.prog 27 #[.agg #[.slice a S.length c], .agg #[.int .i64 p, .int .i64 u]] W _) := fun W hW => DP a c W hW
  have D4 : Hid (∀ W, NdsAt W a S → Calls Try.prog 28 #[.agg #[.slice a S.length c], .agg #[.int .i64 p, .int .i64 u], .bool cl] W _) := fun W hW => DA' a c W hW
  have D5 : Hid (∀ W, NdsAt W a S → Calls Try.prog 29 #[.agg #[.slice a S.length c], .agg #[.int .i64 p, .int .i64 u], .agg #[.int .i64 q, .int .i64 v]] W _) := fun W hW => DS' a c W hW
  have D6 : Hid (∀ a1 c1 a2 c2 W, NdsAt W a1 T → NdsAt W a2 T → Calls Try.prog 31 #[.agg #[.slice a1 T.length c1], .agg #[.slice a2 T.length c2]] W _) := fun a1 c1 a2 c2 W h1 h2 => rSame_any a1 a2 c1 c2 T T W tl tb h1 h2
  have D7 : Hid (∀ W, NdsAt W a S → Calls Try.prog 32 #[.agg #[.slice a S.length c]] W _) := fun W hW => hC a c W hW
  have D8 : Hid (∀ W, NdsAt W a S → Calls Try.prog 33 #[.agg #[.slice a S.length c], .agg #[.int .i64 p, .int .i64 u]] W _) := fun W hW => rHolds_any a c S p u W hN hW
  have D9 : Hid (∀ W, NdsAt W a S → Calls Try.prog 12 #[.agg #[.slice a S.length c], .int .i64 q] W _) := fun W hW => used_all a c S q W hW
  have TG : Hid (findE S p u = 0 → usedB S q = true → ∃ t : Int, (∀ W, NdsAt W a S → Calls Try.prog 34 #[.agg #[.slice a S.length c], .int .i64 p, .int .i64 q] W fun e w' => e = .returned (.int .i64 t) ∧ Below W.heap.size W w') ∧ (∀ W, NdsAt W a S → Calls Try.prog 35 #[.agg #[.slice a S.length c], .int .i64 p, .int .i64 q] W fun e w' => e = .returned (.int .i64 t) ∧ Below W.heap.size W w')) := fun h1 h2 => by
    obtain ⟨wf, k, rfl, hk, _⟩ := find_used h1
    have h3 : isPl S.length q = true := by unfold usedB at h2; simp at h2; exact h2.1
    have h4 : 0 ≤ q ∧ q ≤ (S.length : Int) - 1 := of_decide_eq_true h3
    obtain ⟨m, rfl⟩ : ∃ m : Nat, q = m := ⟨q.toNat, by omega⟩
    exact ⟨targetF S k m, fun W hW => target_any a c S k m W wf.small hW hk (by omega), fun W hW => rTarget_any a c S k m W wf.small hW hk (by omega)⟩
  have LN : Hid (findE S p u = 0 → ∀ W, NdsAt W a S → Calls Try.prog 36 #[.agg #[.slice a S.length c], .int .i64 p] W fun e w' => ∃ a' c', e = .returned (.slice a' L.length c') ∧ Below W.heap.size W w' ∧ IntsAt w' a' L) := fun h1 W hW => by
    obtain ⟨k, rfl, hk, rfl⟩ := lp h1
    have wf := (find_used h1).1
    have h := rLine_any a c S (k : Int) W wf.small hW
    rw [line_path hk] at h
    refine h.mono (fun e w' ⟨v, e1, hb, ho⟩ => ?_)
    obtain ⟨pa, pc, rfl, hi, _⟩ := own_slice ho
    exact ⟨pa, pc, e1, hb, hi⟩
  have EQ : Hid (∀ a1 c1 a2 c2 W, IntsAt W a1 L → IntsAt W a2 L → Calls Try.prog 20 #[.slice a1 L.length c1, .slice a2 L.length c2] W fun e w' => e = .returned (.bool true) ∧ Below W.heap.size W w') := fun a1 c1 a2 c2 W h1 h2 => by
    have h := equal_any a1 a2 c1 c2 L L W ll h1 h2
    rw [decide_eq_true rfl] at h
    exact h
  have L0 : Hid (findE S p u ≠ 0 → L.length = 0) := fun h => by rw [ln h]; rfl
  have HS : Hid (NdsAt w a S) := hS
  have FE : Hid (findE S p u = if checkE S = 0 then holdsE S p u else checkE S) := (rfl : findE S p u = _)
  clear hS DA DA' DS DS' DP hC lp ln hB tb hN tl ll
  generalize checkE S = E0 at *
  generalize holdsE S p u = Eh at *
  generalize findE S p u = Ef at *
  generalize usedB S q = UB at *
  generalize S.length = n at *
  generalize T.length = nT at *
  generalize L.length = nL at *
  go_enter Try.func6, Try.ntmps6
  go_wp2_with fail
  refine Calls.mono (D1.out _ (HS.out.below (three_below _ _ _ _))) ?_
  rintro e w1 ⟨aT, cT, rfl, hb, hn2⟩
  have hbb : Below w.heap.size w w1 := (three_below _ _ _ _).trans (hb.mono (by simp; omega))
  have s_1 : w1.cell? ⟨w.heap.size, 0, none⟩ = some (.slice a n c) := keepC (by go_simp) hb
  have h0_1 : w1.cell? ⟨w.heap.size + 1, 0, none⟩ = some (.int .i64 p) := keepC (by go_simp) hb
  have h1_1 : w1.cell? ⟨w.heap.size + 1, 1, none⟩ = some (.int .i64 u) := keepC (by go_simp) hb
  have t0_1 : w1.cell? ⟨w.heap.size + 1 + 1, 0, none⟩ = some (.int .i64 q) := keepC (by go_simp) hb
  have t1_1 : w1.cell? ⟨w.heap.size + 1 + 1, 1, none⟩ = some (.int .i64 v) := keepC (by go_simp) hb
  have Ls_1 : w.heap.size < w1.heap.size := World.block_lt_of_cell? _ _ s_1
  have Lh0_1 : w.heap.size + 1 < w1.heap.size := World.block_lt_of_cell? _ _ h0_1
  have Lt0_1 : w.heap.size + 1 + 1 < w1.heap.size := World.block_lt_of_cell? _ _ t0_1
  have HSn_1 : Hid (NdsAt w1 a S) := HS.out.below hbb
  have HAn_1 : Hid (NdsAt w1 aT T) := hn2
  have HB_1 : Hid (Below w.heap.size w w1) := hbb
  clear hb hbb hn2 HS D1
  go_wp2_with fail
  refine Calls.mono (D2.out _ (HSn_1.out.below (two_belowS _ _ _))) ?_
  rintro e w2 ⟨rfl, hb⟩
  have hbb : Below w1.heap.size w1 w2 := (two_belowS _ _ _).trans (hb.mono (by first | (simp; done) | (simp; omega)))
  have am_2 : w2.cell? ⟨w1.heap.size, 0, none⟩ = some (.slice aT nT cT) := keepC (alloc_cell1 _ _ _ 0 _ rfl) hb
  have k0_2 : w2.cell? ⟨w1.heap.size + 1, 0, none⟩ = some (.int .i64 kp) := keepC (alloc_cell2 _ _ _ 0 _ rfl) hb
  have k1_2 : w2.cell? ⟨w1.heap.size + 1, 1, none⟩ = some (.int .i64 ku) := keepC (alloc_cell2 _ _ _ 1 _ rfl) hb
  have Lam_2 : w1.heap.size < w2.heap.size := World.block_lt_of_cell? _ _ am_2
  have Lk0_2 : w1.heap.size + 1 < w2.heap.size := World.block_lt_of_cell? _ _ k0_2
  have s_2 : w2.cell? ⟨w.heap.size, 0, none⟩ = some (.slice a n c) := keepC s_1 hbb
  have h0_2 : w2.cell? ⟨w.heap.size + 1, 0, none⟩ = some (.int .i64 p) := keepC h0_1 hbb
  have h1_2 : w2.cell? ⟨w.heap.size + 1, 1, none⟩ = some (.int .i64 u) := keepC h1_1 hbb
  have t0_2 : w2.cell? ⟨w.heap.size + 1 + 1, 0, none⟩ = some (.int .i64 q) := keepC t0_1 hbb
  have t1_2 : w2.cell? ⟨w.heap.size + 1 + 1, 1, none⟩ = some (.int .i64 v) := keepC t1_1 hbb
  have Ls_2 : w.heap.size < w2.heap.size := World.block_lt_of_cell? _ _ s_2
  have Lh0_2 : w.heap.size + 1 < w2.heap.size := World.block_lt_of_cell? _ _ h0_2
  have Lt0_2 : w.heap.size + 1 + 1 < w2.heap.size := World.block_lt_of_cell? _ _ t0_2
  have HSn_2 : Hid (NdsAt w2 a S) := HSn_1.out.below hbb
  have HAn_2 : Hid (NdsAt w2 aT T) := HAn_1.out.below hbb
  have HB_2 : Hid (Below w.heap.size w w2) := HB_1.out.trans (hbb.mono HB_1.out.size)
  clear D2
  clear hb hbb s_1 h0_1 h1_1 t0_1 t1_1 Ls_1 Lh0_1 Lt0_1 HSn_1 HAn_1 HB_1
  go_wp2_with fail
  refine Calls.mono (D3.out _ HSn_2.out) ?_
  rintro e w3 ⟨aL, cL, rfl, hb, hn2⟩
  have hbb : Below w2.heap.size w2 w3 := (Below.refl _ _).trans (hb.mono (by first | (simp; done) | (simp; omega)))
  have s_3 : w3.cell? ⟨w.heap.size, 0, none⟩ = some (.slice a n c) := keepC s_2 hbb
  have h0_3 : w3.cell? ⟨w.heap.size + 1, 0, none⟩ = some (.int .i64 p) := keepC h0_2 hbb
  have h1_3 : w3.cell? ⟨w.heap.size + 1, 1, none⟩ = some (.int .i64 u) := keepC h1_2 hbb
  have t0_3 : w3.cell? ⟨w.heap.size + 1 + 1, 0, none⟩ = some (.int .i64 q) := keepC t0_2 hbb
  have t1_3 : w3.cell? ⟨w.heap.size + 1 + 1, 1, none⟩ = some (.int .i64 v) := keepC t1_2 hbb
  have am_3 : w3.cell? ⟨w1.heap.size, 0, none⟩ = some (.slice aT nT cT) := keepC am_2 hbb
  have k0_3 : w3.cell? ⟨w1.heap.size + 1, 0, none⟩ = some (.int .i64 kp) := keepC k0_2 hbb
  have k1_3 : w3.cell? ⟨w1.heap.size + 1, 1, none⟩ = some (.int .i64 ku) := keepC k1_2 hbb
  have Ls_3 : w.heap.size < w3.heap.size := World.block_lt_of_cell? _ _ s_3
  have Lh0_3 : w.heap.size + 1 < w3.heap.size := World.block_lt_of_cell? _ _ h0_3
  have Lt0_3 : w.heap.size + 1 + 1 < w3.heap.size := World.block_lt_of_cell? _ _ t0_3
  have Lam_3 : w1.heap.size < w3.heap.size := World.block_lt_of_cell? _ _ am_3
  have Lk0_3 : w1.heap.size + 1 < w3.heap.size := World.block_lt_of_cell? _ _ k0_3
  have HSn_3 : Hid (NdsAt w3 a S) := HSn_2.out.below hbb
  have HAn_3 : Hid (NdsAt w3 aT T) := HAn_2.out.below hbb
  have HB_3 : Hid (Below w.heap.size w w3) := HB_2.out.trans (hbb.mono HB_2.out.size)
  have HLn_3 : Hid (IntsAt w3 aL L) := hn2
  clear hn2 D3
  clear hb hbb s_2 h0_2 h1_2 t0_2 t1_2 am_2 k0_2 k1_2 Ls_2 Lh0_2 Lt0_2 Lam_2 Lk0_2 HSn_2 HAn_2 HB_2
  go_wp2_with fail
  refine Calls.mono (D4.out _ HSn_3.out) ?_
  rintro e w4 ⟨aU, cU, rfl, hb, hn2⟩
  have hbb : Below w3.heap.size w3 w4 := (Below.refl _ _).trans (hb.mono (by first | (simp; done) | (simp; omega)))
  have s_4 : w4.cell? ⟨w.heap.size, 0, none⟩ = some (.slice a n c) := keepC s_3 hbb
  have h0_4 : w4.cell? ⟨w.heap.size + 1, 0, none⟩ = some (.int .i64 p) := keepC h0_3 hbb
  have h1_4 : w4.cell? ⟨w.heap.size + 1, 1, none⟩ = some (.int .i64 u) := keepC h1_3 hbb
  have t0_4 : w4.cell? ⟨w.heap.size + 1 + 1, 0, none⟩ = some (.int .i64 q) := keepC t0_3 hbb
  have t1_4 : w4.cell? ⟨w.heap.size + 1 + 1, 1, none⟩ = some (.int .i64 v) := keepC t1_3 hbb
  have am_4 : w4.cell? ⟨w1.heap.size, 0, none⟩ = some (.slice aT nT cT) := keepC am_3 hbb
  have k0_4 : w4.cell? ⟨w1.heap.size + 1, 0, none⟩ = some (.int .i64 kp) := keepC k0_3 hbb
  have k1_4 : w4.cell? ⟨w1.heap.size + 1, 1, none⟩ = some (.int .i64 ku) := keepC k1_3 hbb
  have Ls_4 : w.heap.size < w4.heap.size := World.block_lt_of_cell? _ _ s_4
  have Lh0_4 : w.heap.size + 1 < w4.heap.size := World.block_lt_of_cell? _ _ h0_4
  have Lt0_4 : w.heap.size + 1 + 1 < w4.heap.size := World.block_lt_of_cell? _ _ t0_4
  have Lam_4 : w1.heap.size < w4.heap.size := World.block_lt_of_cell? _ _ am_4
  have Lk0_4 : w1.heap.size + 1 < w4.heap.size := World.block_lt_of_cell? _ _ k0_4
  have HSn_4 : Hid (NdsAt w4 a S) := HSn_3.out.below hbb
  have HAn_4 : Hid (NdsAt w4 aT T) := HAn_3.out.below hbb
  have HLn_4 : Hid (IntsAt w4 aL L) := HLn_3.out.below hbb
  have HB_4 : Hid (Below w.heap.size w w4) := HB_3.out.trans (hbb.mono HB_3.out.size)
  have HUn_4 : Hid (NdsAt w4 aU T) := hn2
  clear hn2 D4
  clear hb hbb s_3 h0_3 h1_3 t0_3 t1_3 am_3 k0_3 k1_3 Ls_3 Lh0_3 Lt0_3 Lam_3 Lk0_3 HSn_3 HAn_3 HLn_3 HB_3
  go_wp2_with fail
  refine Calls.mono (D5.out _ (HSn_4.out.below (two_belowS _ _ _))) ?_
  rintro e w5 ⟨rfl, hb⟩
  have hbb : Below w4.heap.size w4 w5 := (two_belowS _ _ _).trans (hb.mono (by first | (simp; done) | (simp; omega)))
  have Am_5 : w5.cell? ⟨w4.heap.size, 0, none⟩ = some (.slice aU nT cU) := keepC (alloc_cell1 _ _ _ 0 _ rfl) hb
  have K0_5 : w5.cell? ⟨w4.heap.size + 1, 0, none⟩ = some (.int .i64 kp) := keepC (alloc_cell2 _ _ _ 0 _ rfl) hb
  have K1_5 : w5.cell? ⟨w4.heap.size + 1, 1, none⟩ = some (.int .i64 ku) := keepC (alloc_cell2 _ _ _ 1 _ rfl) hb
  have LAm_5 : w4.heap.size < w5.heap.size := World.block_lt_of_cell? _ _ Am_5
  have LK0_5 : w4.heap.size + 1 < w5.heap.size := World.block_lt_of_cell? _ _ K0_5
  have s_5 : w5.cell? ⟨w.heap.size, 0, none⟩ = some (.slice a n c) := keepC s_4 hbb
  have h0_5 : w5.cell? ⟨w.heap.size + 1, 0, none⟩ = some (.int .i64 p) := keepC h0_4 hbb
  have h1_5 : w5.cell? ⟨w.heap.size + 1, 1, none⟩ = some (.int .i64 u) := keepC h1_4 hbb
  have t0_5 : w5.cell? ⟨w.heap.size + 1 + 1, 0, none⟩ = some (.int .i64 q) := keepC t0_4 hbb
  have t1_5 : w5.cell? ⟨w.heap.size + 1 + 1, 1, none⟩ = some (.int .i64 v) := keepC t1_4 hbb
  have am_5 : w5.cell? ⟨w1.heap.size, 0, none⟩ = some (.slice aT nT cT) := keepC am_4 hbb
  have k0_5 : w5.cell? ⟨w1.heap.size + 1, 0, none⟩ = some (.int .i64 kp) := keepC k0_4 hbb
  have k1_5 : w5.cell? ⟨w1.heap.size + 1, 1, none⟩ = some (.int .i64 ku) := keepC k1_4 hbb
  have Ls_5 : w.heap.size < w5.heap.size := World.block_lt_of_cell? _ _ s_5
  have Lh0_5 : w.heap.size + 1 < w5.heap.size := World.block_lt_of_cell? _ _ h0_5
  have Lt0_5 : w.heap.size + 1 + 1 < w5.heap.size := World.block_lt_of_cell? _ _ t0_5
  have Lam_5 : w1.heap.size < w5.heap.size := World.block_lt_of_cell? _ _ am_5
  have Lk0_5 : w1.heap.size + 1 < w5.heap.size := World.block_lt_of_cell? _ _ k0_5
  have HSn_5 : Hid (NdsAt w5 a S) := HSn_4.out.below hbb
  have HAn_5 : Hid (NdsAt w5 aT T) := HAn_4.out.below hbb
  have HLn_5 : Hid (IntsAt w5 aL L) := HLn_4.out.below hbb
  have HUn_5 : Hid (NdsAt w5 aU T) := HUn_4.out.below hbb
  have HB_5 : Hid (Below w.heap.size w w5) := HB_4.out.trans (hbb.mono HB_4.out.size)
  clear D5
  clear hb hbb s_4 h0_4 h1_4 t0_4 t1_4 am_4 k0_4 k1_4 Ls_4 Lh0_4 Lt0_4 Lam_4 Lk0_4 HSn_4 HAn_4 HLn_4 HUn_4 HB_4
  go_wp2_with fail
  refine Calls.mono (veiled_ok _) ?_
  rintro e w6 ⟨rfl, hb⟩
  have hbb : Below w5.heap.size w5 w6 := (Below.refl _ _).trans (hb.mono (by first | (simp; done) | (simp; omega)))
  have s_6 : w6.cell? ⟨w.heap.size, 0, none⟩ = some (.slice a n c) := keepC s_5 hbb
  have h0_6 : w6.cell? ⟨w.heap.size + 1, 0, none⟩ = some (.int .i64 p) := keepC h0_5 hbb
  have h1_6 : w6.cell? ⟨w.heap.size + 1, 1, none⟩ = some (.int .i64 u) := keepC h1_5 hbb
  have t0_6 : w6.cell? ⟨w.heap.size + 1 + 1, 0, none⟩ = some (.int .i64 q) := keepC t0_5 hbb
  have t1_6 : w6.cell? ⟨w.heap.size + 1 + 1, 1, none⟩ = some (.int .i64 v) := keepC t1_5 hbb
  have am_6 : w6.cell? ⟨w1.heap.size, 0, none⟩ = some (.slice aT nT cT) := keepC am_5 hbb
  have k0_6 : w6.cell? ⟨w1.heap.size + 1, 0, none⟩ = some (.int .i64 kp) := keepC k0_5 hbb
  have k1_6 : w6.cell? ⟨w1.heap.size + 1, 1, none⟩ = some (.int .i64 ku) := keepC k1_5 hbb
  have Am_6 : w6.cell? ⟨w4.heap.size, 0, none⟩ = some (.slice aU nT cU) := keepC Am_5 hbb
  have K0_6 : w6.cell? ⟨w4.heap.size + 1, 0, none⟩ = some (.int .i64 kp) := keepC K0_5 hbb
  have K1_6 : w6.cell? ⟨w4.heap.size + 1, 1, none⟩ = some (.int .i64 ku) := keepC K1_5 hbb
  have Ls_6 : w.heap.size < w6.heap.size := World.block_lt_of_cell? _ _ s_6
  have Lh0_6 : w.heap.size + 1 < w6.heap.size := World.block_lt_of_cell? _ _ h0_6
  have Lt0_6 : w.heap.size + 1 + 1 < w6.heap.size := World.block_lt_of_cell? _ _ t0_6
  have Lam_6 : w1.heap.size < w6.heap.size := World.block_lt_of_cell? _ _ am_6
  have Lk0_6 : w1.heap.size + 1 < w6.heap.size := World.block_lt_of_cell? _ _ k0_6
  have LAm_6 : w4.heap.size < w6.heap.size := World.block_lt_of_cell? _ _ Am_6
  have LK0_6 : w4.heap.size + 1 < w6.heap.size := World.block_lt_of_cell? _ _ K0_6
  have HSn_6 : Hid (NdsAt w6 a S) := HSn_5.out.below hbb
  have HAn_6 : Hid (NdsAt w6 aT T) := HAn_5.out.below hbb
  have HLn_6 : Hid (IntsAt w6 aL L) := HLn_5.out.below hbb
  have HUn_6 : Hid (NdsAt w6 aU T) := HUn_5.out.below hbb
  have HB_6 : Hid (Below w.heap.size w w6) := HB_5.out.trans (hbb.mono HB_5.out.size)
  clear hb hbb s_5 h0_5 h1_5 t0_5 t1_5 am_5 k0_5 k1_5 Am_5 K0_5 K1_5 Ls_5 Lh0_5 Lt0_5 Lam_5 Lk0_5 LAm_5 LK0_5 HSn_5 HAn_5 HLn_5 HUn_5 HB_5
  go_wp2_with fail
  refine Calls.mono (D6.out aT cT aU cU _ HAn_6.out HUn_6.out) ?_
  rintro e w7 ⟨r5, rfl, hb, hr⟩
  have hbb : Below w6.heap.size w6 w7 := (Below.refl _ _).trans (hb.mono (by first | (simp; done) | (simp; omega)))
  have s_7 : w7.cell? ⟨w.heap.size, 0, none⟩ = some (.slice a n c) := keepC s_6 hbb
  have h0_7 : w7.cell? ⟨w.heap.size + 1, 0, none⟩ = some (.int .i64 p) := keepC h0_6 hbb
  have h1_7 : w7.cell? ⟨w.heap.size + 1, 1, none⟩ = some (.int .i64 u) := keepC h1_6 hbb
  have t0_7 : w7.cell? ⟨w.heap.size + 1 + 1, 0, none⟩ = some (.int .i64 q) := keepC t0_6 hbb
  have t1_7 : w7.cell? ⟨w.heap.size + 1 + 1, 1, none⟩ = some (.int .i64 v) := keepC t1_6 hbb
  have am_7 : w7.cell? ⟨w1.heap.size, 0, none⟩ = some (.slice aT nT cT) := keepC am_6 hbb
  have k0_7 : w7.cell? ⟨w1.heap.size + 1, 0, none⟩ = some (.int .i64 kp) := keepC k0_6 hbb
  have k1_7 : w7.cell? ⟨w1.heap.size + 1, 1, none⟩ = some (.int .i64 ku) := keepC k1_6 hbb
  have Am_7 : w7.cell? ⟨w4.heap.size, 0, none⟩ = some (.slice aU nT cU) := keepC Am_6 hbb
  have K0_7 : w7.cell? ⟨w4.heap.size + 1, 0, none⟩ = some (.int .i64 kp) := keepC K0_6 hbb
  have K1_7 : w7.cell? ⟨w4.heap.size + 1, 1, none⟩ = some (.int .i64 ku) := keepC K1_6 hbb
  have Ls_7 : w.heap.size < w7.heap.size := World.block_lt_of_cell? _ _ s_7
  have Lh0_7 : w.heap.size + 1 < w7.heap.size := World.block_lt_of_cell? _ _ h0_7
  have Lt0_7 : w.heap.size + 1 + 1 < w7.heap.size := World.block_lt_of_cell? _ _ t0_7
  have Lam_7 : w1.heap.size < w7.heap.size := World.block_lt_of_cell? _ _ am_7
  have Lk0_7 : w1.heap.size + 1 < w7.heap.size := World.block_lt_of_cell? _ _ k0_7
  have LAm_7 : w4.heap.size < w7.heap.size := World.block_lt_of_cell? _ _ Am_7
  have LK0_7 : w4.heap.size + 1 < w7.heap.size := World.block_lt_of_cell? _ _ K0_7
  have HSn_7 : Hid (NdsAt w7 a S) := HSn_6.out.below hbb
  have HAn_7 : Hid (NdsAt w7 aT T) := HAn_6.out.below hbb
  have HLn_7 : Hid (IntsAt w7 aL L) := HLn_6.out.below hbb
  have HUn_7 : Hid (NdsAt w7 aU T) := HUn_6.out.below hbb
  have HB_7 : Hid (Below w.heap.size w w7) := HB_6.out.trans (hbb.mono HB_6.out.size)
  have hr5 : r5 = true := (by first | exact hr.2 rfl | exact hr.2 trivial)
  subst hr5
  clear hr D6
  clear hb hbb s_6 h0_6 h1_6 t0_6 t1_6 am_6 k0_6 k1_6 Am_6 K0_6 K1_6 Ls_6 Lh0_6 Lt0_6 Lam_6 Lk0_6 LAm_6 LK0_6 HSn_6 HAn_6 HLn_6 HUn_6 HB_6
  go_wp2_with fail
  refine Calls.mono (D7.out _ HSn_7.out) ?_
  rintro e w8 ⟨rfl, hb⟩
  have hbb : Below w7.heap.size w7 w8 := (Below.refl _ _).trans (hb.mono (by first | (simp; done) | (simp; omega)))
  have s_8 : w8.cell? ⟨w.heap.size, 0, none⟩ = some (.slice a n c) := keepC s_7 hbb
  have h0_8 : w8.cell? ⟨w.heap.size + 1, 0, none⟩ = some (.int .i64 p) := keepC h0_7 hbb
  have h1_8 : w8.cell? ⟨w.heap.size + 1, 1, none⟩ = some (.int .i64 u) := keepC h1_7 hbb
  have t0_8 : w8.cell? ⟨w.heap.size + 1 + 1, 0, none⟩ = some (.int .i64 q) := keepC t0_7 hbb
  have t1_8 : w8.cell? ⟨w.heap.size + 1 + 1, 1, none⟩ = some (.int .i64 v) := keepC t1_7 hbb
  have am_8 : w8.cell? ⟨w1.heap.size, 0, none⟩ = some (.slice aT nT cT) := keepC am_7 hbb
  have k0_8 : w8.cell? ⟨w1.heap.size + 1, 0, none⟩ = some (.int .i64 kp) := keepC k0_7 hbb
  have k1_8 : w8.cell? ⟨w1.heap.size + 1, 1, none⟩ = some (.int .i64 ku) := keepC k1_7 hbb
  have Am_8 : w8.cell? ⟨w4.heap.size, 0, none⟩ = some (.slice aU nT cU) := keepC Am_7 hbb
  have K0_8 : w8.cell? ⟨w4.heap.size + 1, 0, none⟩ = some (.int .i64 kp) := keepC K0_7 hbb
  have K1_8 : w8.cell? ⟨w4.heap.size + 1, 1, none⟩ = some (.int .i64 ku) := keepC K1_7 hbb
  have Ls_8 : w.heap.size < w8.heap.size := World.block_lt_of_cell? _ _ s_8
  have Lh0_8 : w.heap.size + 1 < w8.heap.size := World.block_lt_of_cell? _ _ h0_8
  have Lt0_8 : w.heap.size + 1 + 1 < w8.heap.size := World.block_lt_of_cell? _ _ t0_8
  have Lam_8 : w1.heap.size < w8.heap.size := World.block_lt_of_cell? _ _ am_8
  have Lk0_8 : w1.heap.size + 1 < w8.heap.size := World.block_lt_of_cell? _ _ k0_8
  have LAm_8 : w4.heap.size < w8.heap.size := World.block_lt_of_cell? _ _ Am_8
  have LK0_8 : w4.heap.size + 1 < w8.heap.size := World.block_lt_of_cell? _ _ K0_8
  have HSn_8 : Hid (NdsAt w8 a S) := HSn_7.out.below hbb
  have HAn_8 : Hid (NdsAt w8 aT T) := HAn_7.out.below hbb
  have HLn_8 : Hid (IntsAt w8 aL L) := HLn_7.out.below hbb
  have HUn_8 : Hid (NdsAt w8 aU T) := HUn_7.out.below hbb
  have HB_8 : Hid (Below w.heap.size w w8) := HB_7.out.trans (hbb.mono HB_7.out.size)
  clear D7
  clear hb hbb s_7 h0_7 h1_7 t0_7 t1_7 am_7 k0_7 k1_7 Am_7 K0_7 K1_7 Ls_7 Lh0_7 Lt0_7 Lam_7 Lk0_7 LAm_7 LK0_7 HSn_7 HAn_7 HLn_7 HUn_7 HB_7
  clear am_8 k0_8 k1_8 Am_8 K0_8 K1_8 Lam_8 Lk0_8 LAm_8 LK0_8 HAn_8 HUn_8
  go_upto_if 89 with fail
  go_cut [21] (fun s21 wx => s21 = .int .i64 Ef ∧ Hid (Below w8.heap.size w8 wx))
  case first =>
    by_cases hE0 : E0 = 0
    · have e5 : Ef = Eh := by rw [FE.out, if_pos hE0]
      subst hE0
      subst e5
      go_wp2_with (go_at_call 33; refine (D8.out _ HSn_8.out).mono ?_; rintro e wy ⟨rfl, hb⟩; have HBy : Hid _ := hb; clear hb)
      go_meet
      case rel => exact ⟨rfl, HBy⟩
    · have hz : (E0 == 0) = false := by simpa using hE0
      have hz' : decide (E0 = 0) = false := decide_eq_false hE0
      have e5 : Ef = E0 := by rw [FE.out, if_neg hE0]
      subst e5
      go_wp2_with fail
      go_meet
      case rel => exact ⟨rfl, (Below.refl _ _ : Below w8.heap.size w8 w8)⟩
  case rest =>
  obtain ⟨rfl, HBc⟩ := hcut
  obtain ⟨w9, rfl⟩ : ∃ W, W = wc := ⟨_, rfl⟩
  have s_9 : w9.cell? ⟨w.heap.size, 0, none⟩ = some (.slice a n c) := keepC s_8 HBc.out
  have h0_9 : w9.cell? ⟨w.heap.size + 1, 0, none⟩ = some (.int .i64 p) := keepC h0_8 HBc.out
  have h1_9 : w9.cell? ⟨w.heap.size + 1, 1, none⟩ = some (.int .i64 u) := keepC h1_8 HBc.out
  have t0_9 : w9.cell? ⟨w.heap.size + 1 + 1, 0, none⟩ = some (.int .i64 q) := keepC t0_8 HBc.out
  have t1_9 : w9.cell? ⟨w.heap.size + 1 + 1, 1, none⟩ = some (.int .i64 v) := keepC t1_8 HBc.out
  have Ls_9 : w.heap.size < w9.heap.size := World.block_lt_of_cell? _ _ s_9
  have Lh0_9 : w.heap.size + 1 < w9.heap.size := World.block_lt_of_cell? _ _ h0_9
  have Lt0_9 : w.heap.size + 1 + 1 < w9.heap.size := World.block_lt_of_cell? _ _ t0_9
  have HSn_9 : Hid (NdsAt w9 a S) := HSn_8.out.below HBc.out
  have HLn_9 : Hid (IntsAt w9 aL L) := HLn_8.out.below HBc.out
  have HB_9 : Hid (Below w.heap.size w w9) := HB_8.out.trans (HBc.out.mono HB_8.out.size)
  clear HBc FE D8 s_8 h0_8 h1_8 t0_8 t1_8 Ls_8 Lh0_8 Lt0_8 HSn_8 HLn_8 HB_8
  by_cases hEf : Ef = 0
  · have d1 := TG.out hEf
    have d2 := LN.out hEf
    have TG2 : Hid _ := d1
    have LN2 : Hid _ := d2
    clear d1 d2 TG LN L0
    subst hEf
    go_upto_region 13 with fail
    go_cut [121] (fun s121 wx => s121 = .bool false ∧ Hid (Below w9.heap.size w9 wx))
    case first =>
      have d9 : Hid _ := D9.out
      cases UB with
      | false =>
        clear TG2
        refine wp_region_noPanic ?_
        refine wp_region_held_drew (S := fun w'' => w''.cell? ⟨w.heap.size, 0, none⟩ = some (.slice a n c) ∧ w''.cell? ⟨w.heap.size + 1, 0, none⟩ = some (.int .i64 p) ∧ w''.cell? ⟨w.heap.size + 1 + 1, 0, none⟩ = some (.int .i64 q)) (by kernel_rfl) (by (try dsimp only); go_keep) (fun hHeld => ?_)
        refine wpAnyH_take (i := 0) (v := ?_) rfl (by kernel_rfl) (by kernel_rfl) (by kernel_rfl) (fun _ _ _ h => h) (Or.inl ⟨by rfl, ?_⟩) (by assumption) ?_
        rotate_left
        · intro w hSw; (try dsimp only at hSw); first | (go_simp; done) | (go_simp; with_reducible rfl)
        simp [Act.put]
        refine wpAnyH_take (i := 1) (v := ?_) rfl (by kernel_rfl) (by kernel_rfl) (by kernel_rfl) (fun _ _ _ h => h) (Or.inl ⟨by rfl, ?_⟩) (by assumption) ?_
        rotate_left
        · intro w hSw; (try dsimp only at hSw); first | (go_simp; done) | (go_simp; with_reducible rfl)
        simp [Act.put]
        refine wpAnyH_take (i := 2) (v := ?_) rfl (by kernel_rfl) (by kernel_rfl) (by kernel_rfl) (fun _ _ _ h => h) (Or.inl ⟨by rfl, ?_⟩) (by assumption) ?_
        rotate_left
        · intro w hSw; (try dsimp only at hSw); first | (go_simp; done) | (go_simp; with_reducible rfl)
        simp [Act.put]
        refine wpAnyH_ready (rs := [3]) (by kernel_rfl) (by simp) ?_
        refine AllReadyH.cons rfl (fun K hK => ?_) AllReadyH.nil
        go_simp
        refine Calls.mono (d9.out _ (by first | exact HSn_9.out.below (Below.refl w9.heap.size w9).drew | exact HSn_9.out)) ?_
        rintro e w10 ⟨rfl, hb⟩
        have HR_10 : Hid (Below w9.heap.size w9 w10) := (by first | exact (Below.refl w9.heap.size w9).drew.trans hb | exact (Below.refl w9.heap.size w9).trans hb)
        have s_10 : w10.cell? ⟨w.heap.size, 0, none⟩ = some (.slice a n c) := keepC s_9 HR_10.out
        have Ls_10 : w.heap.size < w10.heap.size := World.block_lt_of_cell? _ _ s_10
        have h0_10 : w10.cell? ⟨w.heap.size + 1, 0, none⟩ = some (.int .i64 p) := keepC h0_9 HR_10.out
        have Lh0_10 : w.heap.size + 1 < w10.heap.size := World.block_lt_of_cell? _ _ h0_10
        have t0_10 : w10.cell? ⟨w.heap.size + 1 + 1, 0, none⟩ = some (.int .i64 q) := keepC t0_9 HR_10.out
        have Lt0_10 : w.heap.size + 1 + 1 < w10.heap.size := World.block_lt_of_cell? _ _ t0_10
        clear hb
        go_wp2_with fail
        refine hK.out _ _ ?_ (fun hHeld => ?_)
        · (try dsimp only)
          go_keep
        clear hK K
        try simp [Act.put]
        refine wpAnyH_take (i := 4) (v := ?_) rfl (by kernel_rfl) (by kernel_rfl) (by kernel_rfl) (fun _ _ _ h => h) (Or.inl ⟨by rfl, ?_⟩) (by assumption) ?_
        rotate_left
        · intro w hSw; (try dsimp only at hSw); first | (go_simp; done) | (go_simp; with_reducible rfl)
        simp [Act.put]
        refine wpAnyH_take (i := 5) (v := undef) rfl (by kernel_rfl) (by kernel_rfl) (by kernel_rfl) (fun _ _ _ h => h) (Or.inr ⟨by rfl, rfl⟩) (by assumption) ?_
        simp [Act.put]
        refine wpAnyH_take (i := 6) (v := undef) rfl (by kernel_rfl) (by kernel_rfl) (by kernel_rfl) (fun _ _ _ h => h) (Or.inr ⟨by rfl, rfl⟩) (by assumption) ?_
        simp [Act.put]
        refine wpAnyH_take (i := 7) (v := undef) rfl (by kernel_rfl) (by kernel_rfl) (by kernel_rfl) (fun _ _ _ h => h) (Or.inr ⟨by rfl, rfl⟩) (by assumption) ?_
        simp [Act.put]
        refine wpAnyH_take (i := 8) (v := undef) rfl (by kernel_rfl) (by kernel_rfl) (by kernel_rfl) (fun _ _ _ h => h) (Or.inr ⟨by rfl, rfl⟩) (by assumption) ?_
        simp [Act.put]
        refine wpAnyH_take (i := 9) (v := undef) rfl (by kernel_rfl) (by kernel_rfl) (by kernel_rfl) (fun _ _ _ h => h) (Or.inr ⟨by rfl, rfl⟩) (by assumption) ?_
        simp [Act.put]
        refine wpAnyH_take (i := 10) (v := undef) rfl (by kernel_rfl) (by kernel_rfl) (by kernel_rfl) (fun _ _ _ h => h) (Or.inr ⟨by rfl, rfl⟩) (by assumption) ?_
        simp [Act.put]
        refine wpAnyH_take (i := 11) (v := undef) rfl (by kernel_rfl) (by kernel_rfl) (by kernel_rfl) (fun _ _ _ h => h) (Or.inr ⟨by rfl, rfl⟩) (by assumption) ?_
        simp [Act.put]
        refine wpAnyH_take (i := 12) (v := undef) rfl (by kernel_rfl) (by kernel_rfl) (by kernel_rfl) (fun _ _ _ h => h) (Or.inr ⟨by rfl, rfl⟩) (by assumption) ?_
        simp [Act.put]
        refine wpAnyH_take (i := 13) (v := undef) rfl (by kernel_rfl) (by kernel_rfl) (by kernel_rfl) (fun _ _ _ h => h) (Or.inr ⟨by rfl, rfl⟩) (by assumption) ?_
        simp [Act.put]
        refine wpAnyH_take (i := 14) (v := undef) rfl (by kernel_rfl) (by kernel_rfl) (by kernel_rfl) (fun _ _ _ h => h) (Or.inr ⟨by rfl, rfl⟩) (by assumption) ?_
        simp [Act.put]
        refine wpAnyH_take (i := 15) (v := undef) rfl (by kernel_rfl) (by kernel_rfl) (by kernel_rfl) (fun _ _ _ h => h) (Or.inr ⟨by rfl, rfl⟩) (by assumption) ?_
        simp [Act.put]
        refine wpAnyH_take (i := 16) (v := undef) rfl (by kernel_rfl) (by kernel_rfl) (by kernel_rfl) (fun _ _ _ h => h) (Or.inr ⟨by rfl, rfl⟩) (by assumption) ?_
        simp [Act.put]
        refine wpAnyH_take (i := 17) (v := undef) rfl (by kernel_rfl) (by kernel_rfl) (by kernel_rfl) (fun _ _ _ h => h) (Or.inr ⟨by rfl, rfl⟩) (by assumption) ?_
        simp [Act.put]
        refine wpAnyH_take (i := 18) (v := ?_) rfl (by kernel_rfl) (by kernel_rfl) (by kernel_rfl) (fun _ _ _ h => h) (Or.inl ⟨by rfl, ?_⟩) (by assumption) ?_
        rotate_left
        · intro w hSw; (try dsimp only at hSw); first | (go_simp; done) | (go_simp; with_reducible rfl)
        simp [Act.put]
        refine wpAnyH_done (by kernel_rfl) ?_ _
        refine NoPanic.normal ?_
        go_wp2_with fail
        go_meet
        case rel => exact ⟨rfl, HR_10⟩
      | true =>
        obtain ⟨t, TA, TB⟩ := TG2.out rfl
        have HTA : Hid _ := TA
        have HTB : Hid _ := TB
        clear TA TB TG2
        go_region_held3 (fun w'' => w''.cell? ⟨w.heap.size, 0, none⟩ = some (.slice a n c) ∧ w''.cell? ⟨w.heap.size + 1, 0, none⟩ = some (.int .i64 p) ∧ w''.cell? ⟨w.heap.size + 1 + 1, 0, none⟩ = some (.int .i64 q)) (go_keep) (first | (go_at_call 12; refine Calls.mono (d9.out _ (by first | exact HSn_9.out.below (Below.refl w9.heap.size w9).drew | exact HSn_9.out)) ?_; rintro e w10 ⟨rfl, hb⟩; have HR_10 : Hid (Below w9.heap.size w9 w10) := (by first | exact (Below.refl w9.heap.size w9).drew.trans hb | exact (Below.refl w9.heap.size w9).trans hb); have s_10 : w10.cell? ⟨w.heap.size, 0, none⟩ = some (.slice a n c) := keepC s_9 HR_10.out; have Ls_10 : w.heap.size < w10.heap.size := World.block_lt_of_cell? _ _ s_10; have h0_10 : w10.cell? ⟨w.heap.size + 1, 0, none⟩ = some (.int .i64 p) := keepC h0_9 HR_10.out; have Lh0_10 : w.heap.size + 1 < w10.heap.size := World.block_lt_of_cell? _ _ h0_10; have t0_10 : w10.cell? ⟨w.heap.size + 1 + 1, 0, none⟩ = some (.int .i64 q) := keepC t0_9 HR_10.out; have Lt0_10 : w.heap.size + 1 + 1 < w10.heap.size := World.block_lt_of_cell? _ _ t0_10; clear hb) | (go_at_call 34; refine Calls.mono (HTA.out _ (HSn_9.out.below HR_10.out)) ?_; rintro e w11 ⟨rfl, hb⟩; have HR_11 : Hid (Below w9.heap.size w9 w11) := HR_10.out.trans (hb.mono HR_10.out.size); have s_11 : w11.cell? ⟨w.heap.size, 0, none⟩ = some (.slice a n c) := keepC s_9 HR_11.out; have Ls_11 : w.heap.size < w11.heap.size := World.block_lt_of_cell? _ _ s_11; have h0_11 : w11.cell? ⟨w.heap.size + 1, 0, none⟩ = some (.int .i64 p) := keepC h0_9 HR_11.out; have Lh0_11 : w.heap.size + 1 < w11.heap.size := World.block_lt_of_cell? _ _ h0_11; have t0_11 : w11.cell? ⟨w.heap.size + 1 + 1, 0, none⟩ = some (.int .i64 q) := keepC t0_9 HR_11.out; have Lt0_11 : w.heap.size + 1 + 1 < w11.heap.size := World.block_lt_of_cell? _ _ t0_11; clear hb) | (go_at_call 35; refine Calls.mono (HTB.out _ (HSn_9.out.below HR_11.out)) ?_; rintro e w12 ⟨rfl, hb⟩; have HR_12 : Hid (Below w9.heap.size w9 w12) := HR_11.out.trans (hb.mono HR_11.out.size); have s_12 : w12.cell? ⟨w.heap.size, 0, none⟩ = some (.slice a n c) := keepC s_9 HR_12.out; have Ls_12 : w.heap.size < w12.heap.size := World.block_lt_of_cell? _ _ s_12; have h0_12 : w12.cell? ⟨w.heap.size + 1, 0, none⟩ = some (.int .i64 p) := keepC h0_9 HR_12.out; have Lh0_12 : w.heap.size + 1 < w12.heap.size := World.block_lt_of_cell? _ _ h0_12; have t0_12 : w12.cell? ⟨w.heap.size + 1 + 1, 0, none⟩ = some (.int .i64 q) := keepC t0_9 HR_12.out; have Lt0_12 : w.heap.size + 1 + 1 < w12.heap.size := World.block_lt_of_cell? _ _ t0_12; clear hb))
        go_wp2_with fail
        go_meet
        case rel => exact ⟨rfl, HR_12⟩
    case rest =>
    obtain ⟨rfl, HBc⟩ := hcut
    obtain ⟨w13, rfl⟩ : ∃ W, W = wc := ⟨_, rfl⟩
    have s_13 : w13.cell? ⟨w.heap.size, 0, none⟩ = some (.slice a n c) := keepC s_9 HBc.out
    have h0_13 : w13.cell? ⟨w.heap.size + 1, 0, none⟩ = some (.int .i64 p) := keepC h0_9 HBc.out
    have h1_13 : w13.cell? ⟨w.heap.size + 1, 1, none⟩ = some (.int .i64 u) := keepC h1_9 HBc.out
    have t0_13 : w13.cell? ⟨w.heap.size + 1 + 1, 0, none⟩ = some (.int .i64 q) := keepC t0_9 HBc.out
    have t1_13 : w13.cell? ⟨w.heap.size + 1 + 1, 1, none⟩ = some (.int .i64 v) := keepC t1_9 HBc.out
    have Ls_13 : w.heap.size < w13.heap.size := World.block_lt_of_cell? _ _ s_13
    have Lh0_13 : w.heap.size + 1 < w13.heap.size := World.block_lt_of_cell? _ _ h0_13
    have Lt0_13 : w.heap.size + 1 + 1 < w13.heap.size := World.block_lt_of_cell? _ _ t0_13
    have HSn_13 : Hid (NdsAt w13 a S) := HSn_9.out.below HBc.out
    have HLn_13 : Hid (IntsAt w13 aL L) := HLn_9.out.below HBc.out
    have HB_13 : Hid (Below w.heap.size w w13) := HB_9.out.trans (HBc.out.mono HB_9.out.size)
    clear HBc s_9 h0_9 h1_9 t0_9 t1_9 Ls_9 Lh0_9 Lt0_9 HSn_9 HLn_9 HB_9
    go_wp2_with fail
    refine Calls.mono (LN2.out _ HSn_13.out) ?_
    rintro e w14 ⟨aM, cM, rfl, hb, hi⟩
    have HLn_14 : Hid (IntsAt w14 aL L) := HLn_13.out.below hb
    have HMn_14 : Hid (IntsAt w14 aM L) := hi
    have HB_14 : Hid (Below w.heap.size w w14) := HB_13.out.trans (hb.mono HB_13.out.size)
    clear hb hi LN2
    go_wp2_with fail
    refine Calls.mono (EQ.out aL cL aM cM _ HLn_14.out HMn_14.out) ?_
    rintro e w15 ⟨rfl, hb⟩
    have HB_15 : Hid (Below w.heap.size w w15) := HB_14.out.trans (hb.mono HB_14.out.size)
    clear hb
    go_wp2_with fail
    go_ret
    exact ⟨rfl, HB_15.out⟩
  · have hz : (Ef == 0) = false := by simpa using hEf
    have hz' : decide (Ef = 0) = false := decide_eq_false hEf
    have e6 : nL = 0 := L0.out hEf
    subst e6
    clear TG LN L0
    go_wp2_with fail
    go_ret
    exact ⟨rfl, HB_9.out⟩
end Go.Proofs.Ytjlapfgghljidab
