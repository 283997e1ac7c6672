/-
  The walk of TreeSays.
-/
import Derived.Test.YtjlapfgghljidaaURyd
import Derived.Test.YtjlapfgghljidaaURaRbRhRiRz
import Derived.Test.YtjlapfgghljidaaURjRc
import Derived.Test.YtjlapfgghljidaaUToTp
namespace Go.Proofs.Ytjlapfgghljidaa
open Go.RowKit

set_option maxRecDepth 100000 in
set_option maxHeartbeats 8000000 in
theorem treeSays_any (G : GrownOk) (a : Option Addr) (c : Nat) (S : List Nd) (P pu C cu : Int) (ha : Option Addr) (hc : Nat) (hs : List (Int × Int)) (w : World) (hN : S.length ≤ 9223372036854775807) (hB : Big S) (hS : NdsAt w a S) (hH : HandsAt w ha hs) (hC : ∀ a c, RChk a c S) :
    Calls Try.prog 6 #[.agg #[.slice a S.length c], .agg #[.int .i64 P, .int .i64 pu], .agg #[.int .i64 C, .int .i64 cu], .slice ha hs.length hc] w fun e w' => e = .returned (.bool true) ∧ Below w.heap.size w w' := by
  obtain ⟨T, E1, tl, tb, DI, DI'⟩ := insert_both S P pu C cu ha hc hs hN hB hC
  obtain ⟨U, E2, ul, ub, DR, DR'⟩ := remove_both S C cu hN hB hC
  obtain ⟨L, E3, ll, DO, DO'⟩ := order_both S P pu hN hB hC
  have D1 : Hid (∀ W, NdsAt W a S → HandsAt W ha hs → Calls Try.prog 25 #[.agg #[.slice a S.length c], .agg #[.int .i64 P, .int .i64 pu], .agg #[.int .i64 C, .int .i64 cu], .slice ha hs.length hc] W _) := fun W hW h2 => DI a c W hW h2
  have D2 : Hid (∀ W, NdsAt W a S → Calls Try.prog 26 #[.agg #[.slice a S.length c], .agg #[.int .i64 C, .int .i64 cu]] W _) := fun W hW => DR a c W hW
  have D3 : Hid (∀ W, NdsAt W a S → Calls Try.prog 27 #[.agg #[.slice a S.length c], .agg #[.int .i64 P, .int .i64 pu]] W _) := fun W hW => DO a c W hW
  have D4 : Hid (∀ W, NdsAt W a S → HandsAt W ha hs → Calls Try.prog 28 #[.agg #[.slice a S.length c], .agg #[.int .i64 P, .int .i64 pu], .agg #[.int .i64 C, .int .i64 cu], .slice ha hs.length hc] W _) := fun W hW h2 => DI' a c W hW h2
  have D5 : Hid (∀ W, NdsAt W a S → Calls Try.prog 29 #[.agg #[.slice a S.length c], .agg #[.int .i64 C, .int .i64 cu]] W _) := fun W hW => DR' a c W hW
  have D6 : Hid (∀ W, NdsAt W a S → Calls Try.prog 30 #[.agg #[.slice a S.length c], .agg #[.int .i64 P, .int .i64 pu]] W _) := fun W hW => DO' a c W hW
  have D7 : Hid _ := G
  have D8 : Hid (∀ a1 c1 a2 c2 W, NdsAt W a1 T → NdsAt W a2 T → Calls Try.prog 20 #[.agg #[.slice a1 T.length c1], .agg #[.slice a2 T.length c2]] W _) := fun a1 c1 a2 c2 W h1 h2 => rSame_any a1 a2 c1 c2 T T W tl tb h1 h2
  have D9 : Hid (∀ a1 c1 a2 c2 W, NdsAt W a1 U → NdsAt W a2 U → Calls Try.prog 20 #[.agg #[.slice a1 U.length c1], .agg #[.slice a2 U.length c2]] W _) := fun a1 c1 a2 c2 W h1 h2 => rSame_any a1 a2 c1 c2 U U W ul ub h1 h2
  have D10 : Hid (∀ a1 c1 a2 c2 W, IntsAt W a1 L → IntsAt W a2 L → Calls Try.prog 32 #[.slice a1 L.length c1, .slice a2 L.length c2] W fun e w' => e = .returned (.bool true) ∧ Below W.heap.size W w') := fun a1 c1 a2 c2 W h1 h2 => by
    have h := equal_any a1 a2 c1 c2 L L W ll h1 h2
    rw [decide_eq_true rfl] at h
    exact h
  have HS : Hid (NdsAt w a S) := hS
  have HH : Hid (HandsAt w ha hs) := hH
  clear hS hH DI DI' DR DR' DO DO' hC hB tb ub hN tl ul ll
  unfold GrownOk at D7
  generalize S.length = n at *
  generalize T.length = nT at *
  generalize U.length = nU at *
  generalize L.length = nL at *
  generalize hs.length = m at *
  go_enter Try.func6, Try.ntmps6
  go_wp2_with fail
  refine Calls.mono (D1.out _ (HS.out.below (three_below _ _ _ _)) (HH.out.below (three_below _ _ _ _))) ?_
  rintro e w1 ⟨aT, cT, rfl, hb, hn2⟩
  have hbb : Below w.heap.size w w1 := (three_below _ _ _ _).trans (hb.mono (by simp; omega))
  have s_1 : w1.cell? ⟨w.heap.size, 0, none⟩ = some (.slice a n c) := keepC (by go_simp) hb
  have h0_1 : w1.cell? ⟨w.heap.size + 1, 0, none⟩ = some (.int .i64 P) := keepC (by go_simp) hb
  have h1_1 : w1.cell? ⟨w.heap.size + 1, 1, none⟩ = some (.int .i64 pu) := keepC (by go_simp) hb
  have t0_1 : w1.cell? ⟨w.heap.size + 1 + 1, 0, none⟩ = some (.int .i64 C) := keepC (by go_simp) hb
  have t1_1 : w1.cell? ⟨w.heap.size + 1 + 1, 1, none⟩ = some (.int .i64 cu) := keepC (by go_simp) hb
  have Ls_1 : w.heap.size < w1.heap.size := World.block_lt_of_cell? _ _ s_1
  have Lh0_1 : w.heap.size + 1 < w1.heap.size := World.block_lt_of_cell? _ _ h0_1
  have Lt0_1 : w.heap.size + 1 + 1 < w1.heap.size := World.block_lt_of_cell? _ _ t0_1
  have HSn_1 : Hid (NdsAt w1 a S) := HS.out.below hbb
  have HHn_1 : Hid (HandsAt w1 ha hs) := HH.out.below hbb
  have HAn_1 : Hid (NdsAt w1 aT T) := hn2
  have HB_1 : Hid (Below w.heap.size w w1) := hbb
  clear hb hbb hn2 HS HH D1
  go_wp2_with fail
  refine Calls.mono (D2.out _ (HSn_1.out.below (one_belowS _ _))) ?_
  rintro e w2 ⟨aU, cU, rfl, hb, hn2⟩
  have hbb : Below w1.heap.size w1 w2 := (one_belowS _ _).trans (hb.mono (by first | (simp; done) | (simp; omega)))
  have am_2 : w2.cell? ⟨w1.heap.size, 0, none⟩ = some (.slice aT nT cT) := keepC (alloc_cell _ _ _ 0 rfl) hb
  have Lam_2 : w1.heap.size < w2.heap.size := World.block_lt_of_cell? _ _ am_2
  have s_2 : w2.cell? ⟨w.heap.size, 0, none⟩ = some (.slice a n c) := keepC s_1 hbb
  have h0_2 : w2.cell? ⟨w.heap.size + 1, 0, none⟩ = some (.int .i64 P) := keepC h0_1 hbb
  have h1_2 : w2.cell? ⟨w.heap.size + 1, 1, none⟩ = some (.int .i64 pu) := keepC h1_1 hbb
  have t0_2 : w2.cell? ⟨w.heap.size + 1 + 1, 0, none⟩ = some (.int .i64 C) := keepC t0_1 hbb
  have t1_2 : w2.cell? ⟨w.heap.size + 1 + 1, 1, none⟩ = some (.int .i64 cu) := keepC t1_1 hbb
  have Ls_2 : w.heap.size < w2.heap.size := World.block_lt_of_cell? _ _ s_2
  have Lh0_2 : w.heap.size + 1 < w2.heap.size := World.block_lt_of_cell? _ _ h0_2
  have Lt0_2 : w.heap.size + 1 + 1 < w2.heap.size := World.block_lt_of_cell? _ _ t0_2
  have HSn_2 : Hid (NdsAt w2 a S) := HSn_1.out.below hbb
  have HHn_2 : Hid (HandsAt w2 ha hs) := HHn_1.out.below hbb
  have HAn_2 : Hid (NdsAt w2 aT T) := HAn_1.out.below hbb
  have HB_2 : Hid (Below w.heap.size w w2) := HB_1.out.trans (hbb.mono HB_1.out.size)
  have HUn_2 : Hid (NdsAt w2 aU U) := hn2
  clear hn2 D2
  clear hb hbb s_1 h0_1 h1_1 t0_1 t1_1 Ls_1 Lh0_1 Lt0_1 HSn_1 HHn_1 HAn_1 HB_1
  go_wp2_with fail
  refine Calls.mono (D3.out _ (HSn_2.out.below (one_belowS _ _))) ?_
  rintro e w3 ⟨aL, cL, rfl, hb, hn2⟩
  have hbb : Below w2.heap.size w2 w3 := (one_belowS _ _).trans (hb.mono (by first | (simp; done) | (simp; omega)))
  have bm_3 : w3.cell? ⟨w2.heap.size, 0, none⟩ = some (.slice aU nU cU) := keepC (alloc_cell _ _ _ 0 rfl) hb
  have Lbm_3 : w2.heap.size < w3.heap.size := World.block_lt_of_cell? _ _ bm_3
  have s_3 : w3.cell? ⟨w.heap.size, 0, none⟩ = some (.slice a n c) := keepC s_2 hbb
  have h0_3 : w3.cell? ⟨w.heap.size + 1, 0, none⟩ = some (.int .i64 P) := keepC h0_2 hbb
  have h1_3 : w3.cell? ⟨w.heap.size + 1, 1, none⟩ = some (.int .i64 pu) := keepC h1_2 hbb
  have t0_3 : w3.cell? ⟨w.heap.size + 1 + 1, 0, none⟩ = some (.int .i64 C) := keepC t0_2 hbb
  have t1_3 : w3.cell? ⟨w.heap.size + 1 + 1, 1, none⟩ = some (.int .i64 cu) := keepC t1_2 hbb
  have am_3 : w3.cell? ⟨w1.heap.size, 0, none⟩ = some (.slice aT nT cT) := keepC am_2 hbb
  have Ls_3 : w.heap.size < w3.heap.size := World.block_lt_of_cell? _ _ s_3
  have Lh0_3 : w.heap.size + 1 < w3.heap.size := World.block_lt_of_cell? _ _ h0_3
  have Lt0_3 : w.heap.size + 1 + 1 < w3.heap.size := World.block_lt_of_cell? _ _ t0_3
  have Lam_3 : w1.heap.size < w3.heap.size := World.block_lt_of_cell? _ _ am_3
  have HSn_3 : Hid (NdsAt w3 a S) := HSn_2.out.below hbb
  have HHn_3 : Hid (HandsAt w3 ha hs) := HHn_2.out.below hbb
  have HAn_3 : Hid (NdsAt w3 aT T) := HAn_2.out.below hbb
  have HUn_3 : Hid (NdsAt w3 aU U) := HUn_2.out.below hbb
  have HB_3 : Hid (Below w.heap.size w w3) := HB_2.out.trans (hbb.mono HB_2.out.size)
  have HLn_3 : Hid (IntsAt w3 aL L) := hn2
  clear hn2 D3
  clear hb hbb s_2 h0_2 h1_2 t0_2 t1_2 am_2 Ls_2 Lh0_2 Lt0_2 Lam_2 HSn_2 HHn_2 HAn_2 HUn_2 HB_2
  go_wp2_with fail
  refine Calls.mono (D4.out _ HSn_3.out HHn_3.out) ?_
  rintro e w4 ⟨aT2, cT2, rfl, hb, hn2⟩
  have hbb : Below w3.heap.size w3 w4 := (Below.refl _ _).trans (hb.mono (by first | (simp; done) | (simp; omega)))
  have s_4 : w4.cell? ⟨w.heap.size, 0, none⟩ = some (.slice a n c) := keepC s_3 hbb
  have h0_4 : w4.cell? ⟨w.heap.size + 1, 0, none⟩ = some (.int .i64 P) := keepC h0_3 hbb
  have h1_4 : w4.cell? ⟨w.heap.size + 1, 1, none⟩ = some (.int .i64 pu) := keepC h1_3 hbb
  have t0_4 : w4.cell? ⟨w.heap.size + 1 + 1, 0, none⟩ = some (.int .i64 C) := keepC t0_3 hbb
  have t1_4 : w4.cell? ⟨w.heap.size + 1 + 1, 1, none⟩ = some (.int .i64 cu) := keepC t1_3 hbb
  have am_4 : w4.cell? ⟨w1.heap.size, 0, none⟩ = some (.slice aT nT cT) := keepC am_3 hbb
  have bm_4 : w4.cell? ⟨w2.heap.size, 0, none⟩ = some (.slice aU nU cU) := keepC bm_3 hbb
  have Ls_4 : w.heap.size < w4.heap.size := World.block_lt_of_cell? _ _ s_4
  have Lh0_4 : w.heap.size + 1 < w4.heap.size := World.block_lt_of_cell? _ _ h0_4
  have Lt0_4 : w.heap.size + 1 + 1 < w4.heap.size := World.block_lt_of_cell? _ _ t0_4
  have Lam_4 : w1.heap.size < w4.heap.size := World.block_lt_of_cell? _ _ am_4
  have Lbm_4 : w2.heap.size < w4.heap.size := World.block_lt_of_cell? _ _ bm_4
  have HSn_4 : Hid (NdsAt w4 a S) := HSn_3.out.below hbb
  have HHn_4 : Hid (HandsAt w4 ha hs) := HHn_3.out.below hbb
  have HAn_4 : Hid (NdsAt w4 aT T) := HAn_3.out.below hbb
  have HUn_4 : Hid (NdsAt w4 aU U) := HUn_3.out.below hbb
  have HLn_4 : Hid (IntsAt w4 aL L) := HLn_3.out.below hbb
  have HB_4 : Hid (Below w.heap.size w w4) := HB_3.out.trans (hbb.mono HB_3.out.size)
  have HA2n_4 : Hid (NdsAt w4 aT2 T) := hn2
  clear hn2 D4
  clear hb hbb s_3 h0_3 h1_3 t0_3 t1_3 am_3 bm_3 Ls_3 Lh0_3 Lt0_3 Lam_3 Lbm_3 HSn_3 HHn_3 HAn_3 HUn_3 HLn_3 HB_3
  go_wp2_with fail
  refine Calls.mono (D5.out _ (HSn_4.out.below (one_belowS _ _))) ?_
  rintro e w5 ⟨aU2, cU2, rfl, hb, hn2⟩
  have hbb : Below w4.heap.size w4 w5 := (one_belowS _ _).trans (hb.mono (by first | (simp; done) | (simp; omega)))
  have Am_5 : w5.cell? ⟨w4.heap.size, 0, none⟩ = some (.slice aT2 nT cT2) := keepC (alloc_cell _ _ _ 0 rfl) hb
  have LAm_5 : w4.heap.size < w5.heap.size := World.block_lt_of_cell? _ _ Am_5
  have s_5 : w5.cell? ⟨w.heap.size, 0, none⟩ = some (.slice a n c) := keepC s_4 hbb
  have h0_5 : w5.cell? ⟨w.heap.size + 1, 0, none⟩ = some (.int .i64 P) := keepC h0_4 hbb
  have h1_5 : w5.cell? ⟨w.heap.size + 1, 1, none⟩ = some (.int .i64 pu) := keepC h1_4 hbb
  have t0_5 : w5.cell? ⟨w.heap.size + 1 + 1, 0, none⟩ = some (.int .i64 C) := keepC t0_4 hbb
  have t1_5 : w5.cell? ⟨w.heap.size + 1 + 1, 1, none⟩ = some (.int .i64 cu) := keepC t1_4 hbb
  have am_5 : w5.cell? ⟨w1.heap.size, 0, none⟩ = some (.slice aT nT cT) := keepC am_4 hbb
  have bm_5 : w5.cell? ⟨w2.heap.size, 0, none⟩ = some (.slice aU nU cU) := keepC bm_4 hbb
  have Ls_5 : w.heap.size < w5.heap.size := World.block_lt_of_cell? _ _ s_5
  have Lh0_5 : w.heap.size + 1 < w5.heap.size := World.block_lt_of_cell? _ _ h0_5
  have Lt0_5 : w.heap.size + 1 + 1 < w5.heap.size := World.block_lt_of_cell? _ _ t0_5
  have Lam_5 : w1.heap.size < w5.heap.size := World.block_lt_of_cell? _ _ am_5
  have Lbm_5 : w2.heap.size < w5.heap.size := World.block_lt_of_cell? _ _ bm_5
  have HSn_5 : Hid (NdsAt w5 a S) := HSn_4.out.below hbb
  have HHn_5 : Hid (HandsAt w5 ha hs) := HHn_4.out.below hbb
  have HAn_5 : Hid (NdsAt w5 aT T) := HAn_4.out.below hbb
  have HUn_5 : Hid (NdsAt w5 aU U) := HUn_4.out.below hbb
  have HLn_5 : Hid (IntsAt w5 aL L) := HLn_4.out.below hbb
  have HA2n_5 : Hid (NdsAt w5 aT2 T) := HA2n_4.out.below hbb
  have HB_5 : Hid (Below w.heap.size w w5) := HB_4.out.trans (hbb.mono HB_4.out.size)
  have HU2n_5 : Hid (NdsAt w5 aU2 U) := hn2
  clear hn2 D5
  clear hb hbb s_4 h0_4 h1_4 t0_4 t1_4 am_4 bm_4 Ls_4 Lh0_4 Lt0_4 Lam_4 Lbm_4 HSn_4 HHn_4 HAn_4 HUn_4 HLn_4 HA2n_4 HB_4
  go_wp2_with fail
  refine Calls.mono (D6.out _ (HSn_5.out.below (one_belowS _ _))) ?_
  rintro e w6 ⟨aL2, cL2, rfl, hb, hn2⟩
  have hbb : Below w5.heap.size w5 w6 := (one_belowS _ _).trans (hb.mono (by first | (simp; done) | (simp; omega)))
  have Bm_6 : w6.cell? ⟨w5.heap.size, 0, none⟩ = some (.slice aU2 nU cU2) := keepC (alloc_cell _ _ _ 0 rfl) hb
  have LBm_6 : w5.heap.size < w6.heap.size := World.block_lt_of_cell? _ _ Bm_6
  have s_6 : w6.cell? ⟨w.heap.size, 0, none⟩ = some (.slice a n c) := keepC s_5 hbb
  have h0_6 : w6.cell? ⟨w.heap.size + 1, 0, none⟩ = some (.int .i64 P) := keepC h0_5 hbb
  have h1_6 : w6.cell? ⟨w.heap.size + 1, 1, none⟩ = some (.int .i64 pu) := keepC h1_5 hbb
  have t0_6 : w6.cell? ⟨w.heap.size + 1 + 1, 0, none⟩ = some (.int .i64 C) := keepC t0_5 hbb
  have t1_6 : w6.cell? ⟨w.heap.size + 1 + 1, 1, none⟩ = some (.int .i64 cu) := keepC t1_5 hbb
  have am_6 : w6.cell? ⟨w1.heap.size, 0, none⟩ = some (.slice aT nT cT) := keepC am_5 hbb
  have bm_6 : w6.cell? ⟨w2.heap.size, 0, none⟩ = some (.slice aU nU cU) := keepC bm_5 hbb
  have Am_6 : w6.cell? ⟨w4.heap.size, 0, none⟩ = some (.slice aT2 nT cT2) := keepC Am_5 hbb
  have Ls_6 : w.heap.size < w6.heap.size := World.block_lt_of_cell? _ _ s_6
  have Lh0_6 : w.heap.size + 1 < w6.heap.size := World.block_lt_of_cell? _ _ h0_6
  have Lt0_6 : w.heap.size + 1 + 1 < w6.heap.size := World.block_lt_of_cell? _ _ t0_6
  have Lam_6 : w1.heap.size < w6.heap.size := World.block_lt_of_cell? _ _ am_6
  have Lbm_6 : w2.heap.size < w6.heap.size := World.block_lt_of_cell? _ _ bm_6
  have LAm_6 : w4.heap.size < w6.heap.size := World.block_lt_of_cell? _ _ Am_6
  have HSn_6 : Hid (NdsAt w6 a S) := HSn_5.out.below hbb
  have HHn_6 : Hid (HandsAt w6 ha hs) := HHn_5.out.below hbb
  have HAn_6 : Hid (NdsAt w6 aT T) := HAn_5.out.below hbb
  have HUn_6 : Hid (NdsAt w6 aU U) := HUn_5.out.below hbb
  have HLn_6 : Hid (IntsAt w6 aL L) := HLn_5.out.below hbb
  have HA2n_6 : Hid (NdsAt w6 aT2 T) := HA2n_5.out.below hbb
  have HU2n_6 : Hid (NdsAt w6 aU2 U) := HU2n_5.out.below hbb
  have HB_6 : Hid (Below w.heap.size w w6) := HB_5.out.trans (hbb.mono HB_5.out.size)
  have HL2n_6 : Hid (IntsAt w6 aL2 L) := hn2
  clear hn2 D6
  clear hb hbb s_5 h0_5 h1_5 t0_5 t1_5 am_5 bm_5 Am_5 Ls_5 Lh0_5 Lt0_5 Lam_5 Lbm_5 LAm_5 HSn_5 HHn_5 HAn_5 HUn_5 HLn_5 HA2n_5 HU2n_5 HB_5
  go_wp2_with fail
  refine Calls.mono (D7.out _) ?_
  rintro e w7 ⟨rfl, hb⟩
  have hbb : Below w6.heap.size w6 w7 := (Below.refl _ _).trans (hb.mono (by first | (simp; done) | (simp; omega)))
  have s_7 : w7.cell? ⟨w.heap.size, 0, none⟩ = some (.slice a n c) := keepC s_6 hbb
  have h0_7 : w7.cell? ⟨w.heap.size + 1, 0, none⟩ = some (.int .i64 P) := keepC h0_6 hbb
  have h1_7 : w7.cell? ⟨w.heap.size + 1, 1, none⟩ = some (.int .i64 pu) := keepC h1_6 hbb
  have t0_7 : w7.cell? ⟨w.heap.size + 1 + 1, 0, none⟩ = some (.int .i64 C) := keepC t0_6 hbb
  have t1_7 : w7.cell? ⟨w.heap.size + 1 + 1, 1, none⟩ = some (.int .i64 cu) := keepC t1_6 hbb
  have am_7 : w7.cell? ⟨w1.heap.size, 0, none⟩ = some (.slice aT nT cT) := keepC am_6 hbb
  have bm_7 : w7.cell? ⟨w2.heap.size, 0, none⟩ = some (.slice aU nU cU) := keepC bm_6 hbb
  have Am_7 : w7.cell? ⟨w4.heap.size, 0, none⟩ = some (.slice aT2 nT cT2) := keepC Am_6 hbb
  have Bm_7 : w7.cell? ⟨w5.heap.size, 0, none⟩ = some (.slice aU2 nU cU2) := keepC Bm_6 hbb
  have Ls_7 : w.heap.size < w7.heap.size := World.block_lt_of_cell? _ _ s_7
  have Lh0_7 : w.heap.size + 1 < w7.heap.size := World.block_lt_of_cell? _ _ h0_7
  have Lt0_7 : w.heap.size + 1 + 1 < w7.heap.size := World.block_lt_of_cell? _ _ t0_7
  have Lam_7 : w1.heap.size < w7.heap.size := World.block_lt_of_cell? _ _ am_7
  have Lbm_7 : w2.heap.size < w7.heap.size := World.block_lt_of_cell? _ _ bm_7
  have LAm_7 : w4.heap.size < w7.heap.size := World.block_lt_of_cell? _ _ Am_7
  have LBm_7 : w5.heap.size < w7.heap.size := World.block_lt_of_cell? _ _ Bm_7
  have HSn_7 : Hid (NdsAt w7 a S) := HSn_6.out.below hbb
  have HHn_7 : Hid (HandsAt w7 ha hs) := HHn_6.out.below hbb
  have HAn_7 : Hid (NdsAt w7 aT T) := HAn_6.out.below hbb
  have HUn_7 : Hid (NdsAt w7 aU U) := HUn_6.out.below hbb
  have HLn_7 : Hid (IntsAt w7 aL L) := HLn_6.out.below hbb
  have HA2n_7 : Hid (NdsAt w7 aT2 T) := HA2n_6.out.below hbb
  have HU2n_7 : Hid (NdsAt w7 aU2 U) := HU2n_6.out.below hbb
  have HL2n_7 : Hid (IntsAt w7 aL2 L) := HL2n_6.out.below hbb
  have HB_7 : Hid (Below w.heap.size w w7) := HB_6.out.trans (hbb.mono HB_6.out.size)
  clear hb hbb s_6 h0_6 h1_6 t0_6 t1_6 am_6 bm_6 Am_6 Bm_6 Ls_6 Lh0_6 Lt0_6 Lam_6 Lbm_6 LAm_6 LBm_6 HSn_6 HHn_6 HAn_6 HUn_6 HLn_6 HA2n_6 HU2n_6 HL2n_6 HB_6
  go_wp2_with fail
  refine Calls.mono (D8.out aT cT aT2 cT2 _ HAn_7.out HA2n_7.out) ?_
  rintro e w8 ⟨r5, rfl, hb, hr⟩
  have hbb : Below w7.heap.size w7 w8 := (Below.refl _ _).trans (hb.mono (by first | (simp; done) | (simp; omega)))
  have s_8 : w8.cell? ⟨w.heap.size, 0, none⟩ = some (.slice a n c) := keepC s_7 hbb
  have h0_8 : w8.cell? ⟨w.heap.size + 1, 0, none⟩ = some (.int .i64 P) := keepC h0_7 hbb
  have h1_8 : w8.cell? ⟨w.heap.size + 1, 1, none⟩ = some (.int .i64 pu) := keepC h1_7 hbb
  have t0_8 : w8.cell? ⟨w.heap.size + 1 + 1, 0, none⟩ = some (.int .i64 C) := keepC t0_7 hbb
  have t1_8 : w8.cell? ⟨w.heap.size + 1 + 1, 1, none⟩ = some (.int .i64 cu) := keepC t1_7 hbb
  have am_8 : w8.cell? ⟨w1.heap.size, 0, none⟩ = some (.slice aT nT cT) := keepC am_7 hbb
  have bm_8 : w8.cell? ⟨w2.heap.size, 0, none⟩ = some (.slice aU nU cU) := keepC bm_7 hbb
  have Am_8 : w8.cell? ⟨w4.heap.size, 0, none⟩ = some (.slice aT2 nT cT2) := keepC Am_7 hbb
  have Bm_8 : w8.cell? ⟨w5.heap.size, 0, none⟩ = some (.slice aU2 nU cU2) := keepC Bm_7 hbb
  have Ls_8 : w.heap.size < w8.heap.size := World.block_lt_of_cell? _ _ s_8
  have Lh0_8 : w.heap.size + 1 < w8.heap.size := World.block_lt_of_cell? _ _ h0_8
  have Lt0_8 : w.heap.size + 1 + 1 < w8.heap.size := World.block_lt_of_cell? _ _ t0_8
  have Lam_8 : w1.heap.size < w8.heap.size := World.block_lt_of_cell? _ _ am_8
  have Lbm_8 : w2.heap.size < w8.heap.size := World.block_lt_of_cell? _ _ bm_8
  have LAm_8 : w4.heap.size < w8.heap.size := World.block_lt_of_cell? _ _ Am_8
  have LBm_8 : w5.heap.size < w8.heap.size := World.block_lt_of_cell? _ _ Bm_8
  have HSn_8 : Hid (NdsAt w8 a S) := HSn_7.out.below hbb
  have HHn_8 : Hid (HandsAt w8 ha hs) := HHn_7.out.below hbb
  have HAn_8 : Hid (NdsAt w8 aT T) := HAn_7.out.below hbb
  have HUn_8 : Hid (NdsAt w8 aU U) := HUn_7.out.below hbb
  have HLn_8 : Hid (IntsAt w8 aL L) := HLn_7.out.below hbb
  have HA2n_8 : Hid (NdsAt w8 aT2 T) := HA2n_7.out.below hbb
  have HU2n_8 : Hid (NdsAt w8 aU2 U) := HU2n_7.out.below hbb
  have HL2n_8 : Hid (IntsAt w8 aL2 L) := HL2n_7.out.below hbb
  have HB_8 : Hid (Below w.heap.size w w8) := HB_7.out.trans (hbb.mono HB_7.out.size)
  have hr5 : r5 = true := (by first | exact hr.2 rfl | exact hr.2 trivial)
  subst hr5
  clear hr D8
  clear hb hbb s_7 h0_7 h1_7 t0_7 t1_7 am_7 bm_7 Am_7 Bm_7 Ls_7 Lh0_7 Lt0_7 Lam_7 Lbm_7 LAm_7 LBm_7 HSn_7 HHn_7 HAn_7 HUn_7 HLn_7 HA2n_7 HU2n_7 HL2n_7 HB_7
  go_wp2_with fail
  refine Calls.mono (D9.out aU cU aU2 cU2 _ HUn_8.out HU2n_8.out) ?_
  rintro e w9 ⟨r6, rfl, hb, hr⟩
  have hbb : Below w8.heap.size w8 w9 := (Below.refl _ _).trans (hb.mono (by first | (simp; done) | (simp; omega)))
  have s_9 : w9.cell? ⟨w.heap.size, 0, none⟩ = some (.slice a n c) := keepC s_8 hbb
  have h0_9 : w9.cell? ⟨w.heap.size + 1, 0, none⟩ = some (.int .i64 P) := keepC h0_8 hbb
  have h1_9 : w9.cell? ⟨w.heap.size + 1, 1, none⟩ = some (.int .i64 pu) := keepC h1_8 hbb
  have t0_9 : w9.cell? ⟨w.heap.size + 1 + 1, 0, none⟩ = some (.int .i64 C) := keepC t0_8 hbb
  have t1_9 : w9.cell? ⟨w.heap.size + 1 + 1, 1, none⟩ = some (.int .i64 cu) := keepC t1_8 hbb
  have am_9 : w9.cell? ⟨w1.heap.size, 0, none⟩ = some (.slice aT nT cT) := keepC am_8 hbb
  have bm_9 : w9.cell? ⟨w2.heap.size, 0, none⟩ = some (.slice aU nU cU) := keepC bm_8 hbb
  have Am_9 : w9.cell? ⟨w4.heap.size, 0, none⟩ = some (.slice aT2 nT cT2) := keepC Am_8 hbb
  have Bm_9 : w9.cell? ⟨w5.heap.size, 0, none⟩ = some (.slice aU2 nU cU2) := keepC Bm_8 hbb
  have Ls_9 : w.heap.size < w9.heap.size := World.block_lt_of_cell? _ _ s_9
  have Lh0_9 : w.heap.size + 1 < w9.heap.size := World.block_lt_of_cell? _ _ h0_9
  have Lt0_9 : w.heap.size + 1 + 1 < w9.heap.size := World.block_lt_of_cell? _ _ t0_9
  have Lam_9 : w1.heap.size < w9.heap.size := World.block_lt_of_cell? _ _ am_9
  have Lbm_9 : w2.heap.size < w9.heap.size := World.block_lt_of_cell? _ _ bm_9
  have LAm_9 : w4.heap.size < w9.heap.size := World.block_lt_of_cell? _ _ Am_9
  have LBm_9 : w5.heap.size < w9.heap.size := World.block_lt_of_cell? _ _ Bm_9
  have HSn_9 : Hid (NdsAt w9 a S) := HSn_8.out.below hbb
  have HHn_9 : Hid (HandsAt w9 ha hs) := HHn_8.out.below hbb
  have HAn_9 : Hid (NdsAt w9 aT T) := HAn_8.out.below hbb
  have HUn_9 : Hid (NdsAt w9 aU U) := HUn_8.out.below hbb
  have HLn_9 : Hid (IntsAt w9 aL L) := HLn_8.out.below hbb
  have HA2n_9 : Hid (NdsAt w9 aT2 T) := HA2n_8.out.below hbb
  have HU2n_9 : Hid (NdsAt w9 aU2 U) := HU2n_8.out.below hbb
  have HL2n_9 : Hid (IntsAt w9 aL2 L) := HL2n_8.out.below hbb
  have HB_9 : Hid (Below w.heap.size w w9) := HB_8.out.trans (hbb.mono HB_8.out.size)
  have hr6 : r6 = true := (by first | exact hr.2 rfl | exact hr.2 trivial)
  subst hr6
  clear hr D9
  clear hb hbb s_8 h0_8 h1_8 t0_8 t1_8 am_8 bm_8 Am_8 Bm_8 Ls_8 Lh0_8 Lt0_8 Lam_8 Lbm_8 LAm_8 LBm_8 HSn_8 HHn_8 HAn_8 HUn_8 HLn_8 HA2n_8 HU2n_8 HL2n_8 HB_8
  go_wp2_with fail
  refine Calls.mono (D10.out aL cL aL2 cL2 _ HLn_9.out HL2n_9.out) ?_
  rintro e w10 ⟨rfl, hb⟩
  have hbb : Below w9.heap.size w9 w10 := (Below.refl _ _).trans (hb.mono (by first | (simp; done) | (simp; omega)))
  have s_10 : w10.cell? ⟨w.heap.size, 0, none⟩ = some (.slice a n c) := keepC s_9 hbb
  have h0_10 : w10.cell? ⟨w.heap.size + 1, 0, none⟩ = some (.int .i64 P) := keepC h0_9 hbb
  have h1_10 : w10.cell? ⟨w.heap.size + 1, 1, none⟩ = some (.int .i64 pu) := keepC h1_9 hbb
  have t0_10 : w10.cell? ⟨w.heap.size + 1 + 1, 0, none⟩ = some (.int .i64 C) := keepC t0_9 hbb
  have t1_10 : w10.cell? ⟨w.heap.size + 1 + 1, 1, none⟩ = some (.int .i64 cu) := keepC t1_9 hbb
  have am_10 : w10.cell? ⟨w1.heap.size, 0, none⟩ = some (.slice aT nT cT) := keepC am_9 hbb
  have bm_10 : w10.cell? ⟨w2.heap.size, 0, none⟩ = some (.slice aU nU cU) := keepC bm_9 hbb
  have Am_10 : w10.cell? ⟨w4.heap.size, 0, none⟩ = some (.slice aT2 nT cT2) := keepC Am_9 hbb
  have Bm_10 : w10.cell? ⟨w5.heap.size, 0, none⟩ = some (.slice aU2 nU cU2) := keepC Bm_9 hbb
  have Ls_10 : w.heap.size < w10.heap.size := World.block_lt_of_cell? _ _ s_10
  have Lh0_10 : w.heap.size + 1 < w10.heap.size := World.block_lt_of_cell? _ _ h0_10
  have Lt0_10 : w.heap.size + 1 + 1 < w10.heap.size := World.block_lt_of_cell? _ _ t0_10
  have Lam_10 : w1.heap.size < w10.heap.size := World.block_lt_of_cell? _ _ am_10
  have Lbm_10 : w2.heap.size < w10.heap.size := World.block_lt_of_cell? _ _ bm_10
  have LAm_10 : w4.heap.size < w10.heap.size := World.block_lt_of_cell? _ _ Am_10
  have LBm_10 : w5.heap.size < w10.heap.size := World.block_lt_of_cell? _ _ Bm_10
  have HSn_10 : Hid (NdsAt w10 a S) := HSn_9.out.below hbb
  have HHn_10 : Hid (HandsAt w10 ha hs) := HHn_9.out.below hbb
  have HAn_10 : Hid (NdsAt w10 aT T) := HAn_9.out.below hbb
  have HUn_10 : Hid (NdsAt w10 aU U) := HUn_9.out.below hbb
  have HLn_10 : Hid (IntsAt w10 aL L) := HLn_9.out.below hbb
  have HA2n_10 : Hid (NdsAt w10 aT2 T) := HA2n_9.out.below hbb
  have HU2n_10 : Hid (NdsAt w10 aU2 U) := HU2n_9.out.below hbb
  have HL2n_10 : Hid (IntsAt w10 aL2 L) := HL2n_9.out.below hbb
  have HB_10 : Hid (Below w.heap.size w w10) := HB_9.out.trans (hbb.mono HB_9.out.size)
  clear hb hbb s_9 h0_9 h1_9 t0_9 t1_9 am_9 bm_9 Am_9 Bm_9 Ls_9 Lh0_9 Lt0_9 Lam_9 Lbm_9 LAm_9 LBm_9 HSn_9 HHn_9 HAn_9 HUn_9 HLn_9 HA2n_9 HU2n_9 HL2n_9 HB_9
  go_wp2_with fail
  go_ret
  exact ⟨rfl, HB_10.out⟩
end Go.Proofs.Ytjlapfgghljidaa
