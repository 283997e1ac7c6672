/-
  The walk of StoreSays.
-/
import Derived.Test.YtjlapfgghljidaaURlMwRmRm2
import Derived.Test.YtjlapfgghljidaaURaRbRhRiRz
import Derived.Test.YtjlapfgghljidaaURm3Tq
import Derived.Test.YtjlapfgghljidaaURjRc
import Derived.Test.YtjlapfgghljidaaUWe
import Derived.Test.YtjlapfgghljidaaUXeXf
import Derived.Deep.RegionHeld3
import Derived.Deep.DeepCutAuto
namespace Go.Proofs.Ytjlapfgghljidaa
open Go.RowKit

theorem bool_same {r r2 : Bool} {P : Prop} (h1 : r = true ↔ P) (h2 : r2 = true ↔ P) : r2 = r := by
  cases r <;> cases r2 <;> simp_all
theorem nd_zero {u c : Bool} {n t m p h : Int} {ks : List Int} (e : (⟨u, n, t, m, p, ks, h, c⟩ : Nd) = zeroNd) : u = false ∧ n = 0 ∧ t = 0 ∧ m = 0 ∧ p = 0 ∧ ks = [] ∧ h = 0 ∧ c = false := by
  unfold zeroNd at e
  cases e
  exact ⟨rfl, rfl, rfl, rfl, rfl, rfl, rfl, rfl⟩
theorem big_one {x : Nd} (h : x.ks.length ≤ 9223372036854775807) : Big [x] := fun i hi => by
  have : i = 0 := by simpa using hi
  subst this
  exact h
theorem nds_one {W : World} {b L : Nat} {x : Nd} {ka : Option Addr} {kc : Nat} (c0 : W.cell? ⟨b, 0, none⟩ = some (.bool x.u)) (c1 : W.cell? ⟨b, 1, none⟩ = some (.int .i64 x.n)) (c2 : W.cell? ⟨b, 2, none⟩ = some (.int .i64 x.t)) (c3 : W.cell? ⟨b, 3, none⟩ = some (.int .i64 x.m)) (c4 : W.cell? ⟨b, 4, none⟩ = some (.int .i64 x.p)) (c5 : W.cell? ⟨b, 5, none⟩ = some (.slice ka L kc)) (c6 : W.cell? ⟨b, 6, none⟩ = some (.int .i64 x.h)) (c7 : W.cell? ⟨b, 7, none⟩ = some (.bool x.c)) (hL : x.ks.length = L) (hi : IntsAt W ka x.ks) : NdsAt W (some ⟨b, 0, none⟩) [x] := fun i hi' => by
  have : i = 0 := by simpa using hi'
  subst this
  subst hL
  exact ⟨b, 0, rfl, c0, c1, c2, c3, c4, ⟨ka, kc, c5, hi⟩, c6, c7⟩
theorem pat_alloc (W : World) : ∀ j, j < 8 → (W.alloc (.cells #[.bool false, .int .i64 0, .int .i64 0, .int .i64 0, .int .i64 (-1), .slice none 0 0, .int .i64 (-1), .bool false] 35)).cell? ⟨W.heap.size, j, none⟩ = some (patV j) := fun j hj =>
  match j, hj with
  | 0, _ => alloc_cell _ _ _ 0 rfl
  | 1, _ => alloc_cell _ _ _ 1 rfl
  | 2, _ => alloc_cell _ _ _ 2 rfl
  | 3, _ => alloc_cell _ _ _ 3 rfl
  | 4, _ => alloc_cell _ _ _ 4 rfl
  | 5, _ => alloc_cell _ _ _ 5 rfl
  | 6, _ => alloc_cell _ _ _ 6 rfl
  | 7, _ => alloc_cell _ _ _ 7 rfl
/-- Two rows of one node each, made one behind the other. -/
theorem nds_pair {W : World} {u c : Bool} {n t m p h : Int} {ks : List Int} {ka ka' : Option Addr} {kc kc' L : Nat} (hL : ks.length = L) (h1 : IntsAt W ka ks) (h2 : IntsAt W ka' ks) :
    NdsAt ((W.alloc (.cells #[.bool u, .int .i64 n, .int .i64 t, .int .i64 m, .int .i64 p, .slice ka L kc, .int .i64 h, .bool c] 35)).alloc (.cells #[.bool u, .int .i64 n, .int .i64 t, .int .i64 m, .int .i64 p, .slice ka' L kc', .int .i64 h, .bool c] 35)) (some ⟨W.heap.size, 0, none⟩) [⟨u, n, t, m, p, ks, h, c⟩] ∧
    NdsAt ((W.alloc (.cells #[.bool u, .int .i64 n, .int .i64 t, .int .i64 m, .int .i64 p, .slice ka L kc, .int .i64 h, .bool c] 35)).alloc (.cells #[.bool u, .int .i64 n, .int .i64 t, .int .i64 m, .int .i64 p, .slice ka' L kc', .int .i64 h, .bool c] 35)) (some ⟨W.heap.size + 1, 0, none⟩) [⟨u, n, t, m, p, ks, h, c⟩] :=
  ⟨nds_one (alloc_cell1 _ _ _ 0 _ rfl) (alloc_cell1 _ _ _ 1 _ rfl) (alloc_cell1 _ _ _ 2 _ rfl) (alloc_cell1 _ _ _ 3 _ rfl) (alloc_cell1 _ _ _ 4 _ rfl) (alloc_cell1 _ _ _ 5 _ rfl) (alloc_cell1 _ _ _ 6 _ rfl) (alloc_cell1 _ _ _ 7 _ rfl) hL (h1.below (two_belowS _ _ _)),
   nds_one (alloc_cell2 _ _ _ 0 _ rfl) (alloc_cell2 _ _ _ 1 _ rfl) (alloc_cell2 _ _ _ 2 _ rfl) (alloc_cell2 _ _ _ 3 _ rfl) (alloc_cell2 _ _ _ 4 _ rfl) (alloc_cell2 _ _ _ 5 _ rfl) (alloc_cell2 _ _ _ 6 _ rfl) (alloc_cell2 _ _ _ 7 _ rfl) hL (h2.below (two_belowS _ _ _))⟩

theorem new_all (pl : Int) : ∃ (N : List Nd) (En : Int), N.length ≤ 9223372036854775807 ∧ Big N ∧ ((pl < 0 ∨ 24 < pl) → N = [] ∧ En = 2) ∧ ((0 ≤ pl ∧ pl ≤ 24) → N = List.replicate pl.toNat unusedNd ∧ En = 0) ∧
    ∀ W, Calls Try.prog 10 #[.int .i64 pl] W fun e w' => ∃ a' c', e = .returned (.tuple #[.agg #[.slice a' N.length c'], .int .i64 En]) ∧ Below W.heap.size W w' ∧ NdsAt w' a' N := by
  by_cases h : pl < 0 ∨ 24 < pl
  · exact ⟨[], 2, by simp, fun i hi => absurd hi (Nat.not_lt_zero _), fun _ => ⟨rfl, rfl⟩, fun h2 => by omega, fun W => (new_badXe pl W h).mono (fun e w' ⟨e1, hb⟩ => ⟨none, 0, e1, hb, nds_nil _⟩)⟩
  · obtain ⟨m, rfl⟩ : ∃ m : Nat, pl = m := ⟨pl.toNat, by omega⟩
    refine ⟨List.replicate m unusedNd, 0, by simp; omega, fun i hi => ?_, fun h2 => absurd h2 h, fun _ => ⟨rfl, rfl⟩, fun W => (new_any m W (by omega)).mono (fun e w' ⟨g, e1, hb, hn⟩ => ⟨some ⟨g, 0, none⟩, m, ?_, hb, hn⟩)⟩
    · have hi' : i < m := by simpa using hi
      unfold nd
      simp [List.getD, hi', unusedNd]
    · rw [e1, List.length_replicate]

set_option maxRecDepth 100000 in
set_option maxHeartbeats 8000000 in
theorem says_any (a a2 : Option Addr) (c c2 : Nat) (S U : List Nd) (pl tag p u : Int) (w : World) (hN : S.length * 80 ≤ 140737488355328) (hK : ∀ i, i < S.length → (nd S i).ks.length * 8 ≤ 140737488355328) (hS : NdsAt w a S) (hT : NdsAt w a2 U) (hC : ∀ a c, RChk a c S) :
    Calls Try.prog 3 #[.agg #[.slice a S.length c], .int .i64 pl, .int .i64 tag, .agg #[.int .i64 p, .int .i64 u], .agg #[.slice a2 U.length c2]] w fun e w' => e = .returned (.bool true) ∧ Below w.heap.size w w' := by
  have hN0 : S.length ≤ 9223372036854775807 := by omega
  have hB : Big S := fun i hi => by have := hK i hi; omega
  obtain ⟨T, kp, ku, E1, tl, tb, DM, DM'⟩ := make_both S tag hN0 hB hC
  obtain ⟨T2, E2, tl2, tb2, DR, DR'⟩ := free_both S p u hN0 hB hC
  obtain ⟨x, hxl, hx0, hx1, DF⟩ := find_all S p u hN0 hB
  obtain ⟨Nw, En, nl, nbig, nb1, nb2, DN⟩ := new_all pl
  have D1 : Hid (∀ W, NdsAt W a S → Calls _ _ _ _ _) := fun W hW => rOwn_any a c S W hN hK hW
  have D2 : Hid _ := DN
  have D3 : Hid (∀ ao co W, NdsAt W ao S → Calls Try.prog 11 #[.agg #[.slice ao S.length co], .int .i64 tag] W _) := fun ao co W hW => DM ao co W hW
  have D4 : Hid _ := DF
  have D5 : Hid (∀ ao co W, NdsAt W ao S → Calls Try.prog 13 #[.agg #[.slice ao S.length co], .agg #[.int .i64 p, .int .i64 u]] W _) := fun ao co W hW => DR ao co W hW
  have D6 : Hid (∀ W, NdsAt W a S → Calls Try.prog 14 #[.agg #[.slice a S.length c], .int .i64 tag] W _) := fun W hW => DM' a c W hW
  have D7 : Hid (∀ W, NdsAt W a S → Calls Try.prog 15 #[.agg #[.slice a S.length c], .agg #[.int .i64 p, .int .i64 u]] W _) := fun W hW => DR' a c W hW
  have D8 : Hid (∀ W, NdsAt W a S → Calls Try.prog 16 #[.agg #[.slice a S.length c]] W _) := fun W hW => hC a c W hW
  have D9 : Hid (∀ W, NdsAt W a S → Calls Try.prog 18 #[.agg #[.slice a S.length c]] W _) := fun W hW => check_any a c S W hN0 hB hW
  have D10 : Hid (∀ W, NdsAt W a S → NdsAt W a2 U → Calls Try.prog 19 #[.agg #[.slice a S.length c], .agg #[.slice a2 U.length c2]] W _) := fun W h1 h2 => same_any a a2 c c2 S U W hN0 hB h1 h2
  have D11 : Hid (∀ W, NdsAt W a S → NdsAt W a2 U → Calls Try.prog 20 #[.agg #[.slice a S.length c], .agg #[.slice a2 U.length c2]] W _) := fun W h1 h2 => rSame_any a a2 c c2 S U W hN0 hB h1 h2
  have D12 : Hid (∀ W, NdsAt W a S → Calls Try.prog 21 #[.agg #[.slice a S.length c], .agg #[.int .i64 p, .int .i64 u]] W _) := fun W hW => holds_any a c S p u W hN0 hW
  have D13 : Hid (∀ W, NdsAt W a S → Calls Try.prog 22 #[.agg #[.slice a S.length c], .agg #[.int .i64 p, .int .i64 u]] W _) := fun W hW => rHolds_any a c S p u W hN0 hW
  have D14 : Hid (∀ ao co W, NdsAt W ao S → NdsAt W a S → Calls Try.prog 20 #[.agg #[.slice ao S.length co], .agg #[.slice a S.length c]] W _) := fun ao co W h1 h2 => rSame_any ao a co c S S W hN0 hB h1 h2
  have D15 : Hid (∀ a1 c1 a2 c2 W, NdsAt W a1 T → NdsAt W a2 T → Calls Try.prog 20 #[.agg #[.slice a1 T.length c1], .agg #[.slice a2 T.length c2]] W _) := fun a1 c1 a2 c2 W h1 h2 => rSame_any a1 a2 c1 c2 T T W tl tb h1 h2
  have D16 : Hid (∀ a1 c1 a2 c2 W, NdsAt W a1 T2 → NdsAt W a2 T2 → Calls Try.prog 20 #[.agg #[.slice a1 T2.length c1], .agg #[.slice a2 T2.length c2]] W _) := fun a1 c1 a2 c2 W h1 h2 => rSame_any a1 a2 c1 c2 T2 T2 W tl2 tb2 h1 h2
  have D17 : Hid (∀ a1 c1 a2 c2 W, NdsAt W a1 Nw → NdsAt W a2 Nw → Calls Try.prog 20 #[.agg #[.slice a1 Nw.length c1], .agg #[.slice a2 Nw.length c2]] W _) := fun a1 c1 a2 c2 W h1 h2 => rSame_any a1 a2 c1 c2 Nw Nw W nl nbig h1 h2
  have HS : Hid (NdsAt w a S) := hS
  have HU : Hid (NdsAt w a2 U) := hT
  have HX0 : Hid _ := hx0
  have HX1 : Hid _ := hx1
  have NB1 : Hid _ := nb1
  have NB2 : Hid _ := nb2
  have FE : Hid (findE S p u = if checkE S = 0 then holdsE S p u else checkE S) := (rfl : findE S p u = _)
  clear hS hT DM DM' DR DR' DF DN hC hx0 hx1 nb1 nb2 hK hB tb tb2 nbig
  generalize checkE S = E0 at *
  generalize holdsE S p u = Eh at *
  generalize findE S p u = Ef at *
  generalize hn : S.length = n at *
  have HN : Hid (S.length = n) := hn
  clear hn
  generalize U.length = n2 at *
  generalize hnT : T.length = nT at *
  have HNT : Hid (T.length = nT) := hnT
  generalize hnB : T2.length = nB at *
  have HNB : Hid (T2.length = nB) := hnB
  generalize hnN : Nw.length = nN at *
  have HNN : Hid (Nw.length = nN) := hnN
  clear hnT hnB hnN
  obtain ⟨xu, xn, xt, xm, xp, xks, xh, xc⟩ := x
  dsimp only at D4 hxl
  generalize hnX : xks.length = nX at *
  have HNX : Hid (xks.length = nX) := hnX
  clear hnX
  go_enter Try.func3, Try.ntmps3
  go_wp2_with (go_at_call 9; refine (D1.out _ (HS.out.below (three_below _ _ _ _))).mono ?_; rintro e w1 ⟨v, KK, rfl, hb, hown⟩; have hbb : Below w.heap.size w w1 := (three_below _ _ _ _).trans (hb.mono (by simp; omega)); have s_1 : w1.cell? ⟨w.heap.size, 0, none⟩ = some (.slice a n c) := keepC (by go_simp) hb; have h0_1 : w1.cell? ⟨w.heap.size + 1, 0, none⟩ = some (.int .i64 p) := keepC (by go_simp) hb; have h1_1 : w1.cell? ⟨w.heap.size + 1, 1, none⟩ = some (.int .i64 u) := keepC (by go_simp) hb; have t_1 : w1.cell? ⟨w.heap.size + 1 + 1, 0, none⟩ = some (.slice a2 n2 c2) := keepC (by go_simp) hb; have Ls_1 : w.heap.size < w1.heap.size := World.block_lt_of_cell? _ _ s_1; have Lh0_1 : w.heap.size + 1 < w1.heap.size := World.block_lt_of_cell? _ _ h0_1; have Lt_1 : w.heap.size + 1 + 1 < w1.heap.size := World.block_lt_of_cell? _ _ t_1; have HSn_1 : Hid (NdsAt w1 a S) := HS.out.below hbb; have HUn_1 : Hid (NdsAt w1 a2 U) := HU.out.below hbb; have HB_1 : Hid (Below w.heap.size w w1) := hbb; obtain ⟨ao, co, hv, hno⟩ := (show OwnK _ S S.length KK v w1 from (by rw [HN.out]; exact hown)).nds; rw [HN.out] at hv; subst hv; have HOn_1 : Hid (NdsAt w1 ao S) := hno; clear hown hno; clear hb hbb)
  go_wp2_with (go_at_call 10; refine (D2.out _).mono ?_; rintro e w2 ⟨an, cn, rfl, hb, hn2⟩; have hbb : Below w1.heap.size w1 w2 := (one_belowS _ _).trans (hb.mono (by simp)); have s_2 : w2.cell? ⟨w.heap.size, 0, none⟩ = some (.slice a n c) := keepC s_1 hbb; have h0_2 : w2.cell? ⟨w.heap.size + 1, 0, none⟩ = some (.int .i64 p) := keepC h0_1 hbb; have h1_2 : w2.cell? ⟨w.heap.size + 1, 1, none⟩ = some (.int .i64 u) := keepC h1_1 hbb; have t_2 : w2.cell? ⟨w.heap.size + 1 + 1, 0, none⟩ = some (.slice a2 n2 c2) := keepC t_1 hbb; have own_2 : w2.cell? ⟨w1.heap.size, 0, none⟩ = some (.slice ao n co) := keepC (alloc_cell _ _ _ 0 rfl) hb; have Ls_2 : w.heap.size < w2.heap.size := World.block_lt_of_cell? _ _ s_2; have Lh0_2 : w.heap.size + 1 < w2.heap.size := World.block_lt_of_cell? _ _ h0_2; have Lt_2 : w.heap.size + 1 + 1 < w2.heap.size := World.block_lt_of_cell? _ _ t_2; have Lown_2 : w1.heap.size < w2.heap.size := World.block_lt_of_cell? _ _ own_2; have HSn_2 : Hid (NdsAt w2 a S) := HSn_1.out.below hbb; have HUn_2 : Hid (NdsAt w2 a2 U) := HUn_1.out.below hbb; have HOn_2 : Hid (NdsAt w2 ao S) := HOn_1.out.below hbb; have HNn_2 : Hid (NdsAt w2 an Nw) := hn2; have HB_2 : Hid (Below w.heap.size w w2) := HB_1.out.trans (hbb.mono HB_1.out.size); clear hn2; clear hb hbb Ls_1 Lh0_1 Lt_1 s_1 h0_1 h1_1 t_1 HSn_1 HUn_1 HOn_1 HB_1)
  go_wp2_with (go_at_call 11; refine (D3.out ao co _ (HOn_2.out.below (one_belowS _ _))).mono ?_; rintro e w3 ⟨aT, cT, rfl, hb, hn2⟩; have hbb : Below w2.heap.size w2 w3 := (one_belowS _ _).trans (hb.mono (by simp)); have s_3 : w3.cell? ⟨w.heap.size, 0, none⟩ = some (.slice a n c) := keepC s_2 hbb; have h0_3 : w3.cell? ⟨w.heap.size + 1, 0, none⟩ = some (.int .i64 p) := keepC h0_2 hbb; have h1_3 : w3.cell? ⟨w.heap.size + 1, 1, none⟩ = some (.int .i64 u) := keepC h1_2 hbb; have t_3 : w3.cell? ⟨w.heap.size + 1 + 1, 0, none⟩ = some (.slice a2 n2 c2) := keepC t_2 hbb; have own_3 : w3.cell? ⟨w1.heap.size, 0, none⟩ = some (.slice ao n co) := keepC own_2 hbb; have nw_3 : w3.cell? ⟨w2.heap.size, 0, none⟩ = some (.slice an nN cn) := keepC (alloc_cell _ _ _ 0 rfl) hb; have Ls_3 : w.heap.size < w3.heap.size := World.block_lt_of_cell? _ _ s_3; have Lh0_3 : w.heap.size + 1 < w3.heap.size := World.block_lt_of_cell? _ _ h0_3; have Lt_3 : w.heap.size + 1 + 1 < w3.heap.size := World.block_lt_of_cell? _ _ t_3; have Lown_3 : w1.heap.size < w3.heap.size := World.block_lt_of_cell? _ _ own_3; have Lnw_3 : w2.heap.size < w3.heap.size := World.block_lt_of_cell? _ _ nw_3; have HSn_3 : Hid (NdsAt w3 a S) := HSn_2.out.below hbb; have HUn_3 : Hid (NdsAt w3 a2 U) := HUn_2.out.below hbb; have HOn_3 : Hid (NdsAt w3 ao S) := HOn_2.out.below hbb; have HNn_3 : Hid (NdsAt w3 an Nw) := HNn_2.out.below hbb; have HAn_3 : Hid (NdsAt w3 aT T) := hn2; have HB_3 : Hid (Below w.heap.size w w3) := HB_2.out.trans (hbb.mono HB_2.out.size); clear hn2; clear hb hbb Ls_2 Lh0_2 Lt_2 Lown_2 s_2 h0_2 h1_2 t_2 own_2 HSn_2 HUn_2 HOn_2 HNn_2 HB_2)
  go_wp2_with (go_at_call 12; refine (D4.out ao co _ (HOn_3.out.below (two_belowS _ _ _))).mono ?_; rintro e w4 ⟨ka, kc, rfl, hb, hn2⟩; have hbb : Below w3.heap.size w3 w4 := (two_belowS _ _ _).trans (hb.mono (by simp; omega)); have s_4 : w4.cell? ⟨w.heap.size, 0, none⟩ = some (.slice a n c) := keepC s_3 hbb; have h0_4 : w4.cell? ⟨w.heap.size + 1, 0, none⟩ = some (.int .i64 p) := keepC h0_3 hbb; have h1_4 : w4.cell? ⟨w.heap.size + 1, 1, none⟩ = some (.int .i64 u) := keepC h1_3 hbb; have t_4 : w4.cell? ⟨w.heap.size + 1 + 1, 0, none⟩ = some (.slice a2 n2 c2) := keepC t_3 hbb; have own_4 : w4.cell? ⟨w1.heap.size, 0, none⟩ = some (.slice ao n co) := keepC own_3 hbb; have nw_4 : w4.cell? ⟨w2.heap.size, 0, none⟩ = some (.slice an nN cn) := keepC nw_3 hbb; have am_4 : w4.cell? ⟨w3.heap.size, 0, none⟩ = some (.slice aT nT cT) := keepC (alloc_cell1 _ _ _ 0 _ rfl) hb; have k0_4 : w4.cell? ⟨w3.heap.size + 1, 0, none⟩ = some (.int .i64 kp) := keepC (alloc_cell2 _ _ _ 0 _ rfl) hb; have k1_4 : w4.cell? ⟨w3.heap.size + 1, 1, none⟩ = some (.int .i64 ku) := keepC (alloc_cell2 _ _ _ 1 _ rfl) hb; have Ls_4 : w.heap.size < w4.heap.size := World.block_lt_of_cell? _ _ s_4; have Lh0_4 : w.heap.size + 1 < w4.heap.size := World.block_lt_of_cell? _ _ h0_4; have Lt_4 : w.heap.size + 1 + 1 < w4.heap.size := World.block_lt_of_cell? _ _ t_4; have Lown_4 : w1.heap.size < w4.heap.size := World.block_lt_of_cell? _ _ own_4; have Lnw_4 : w2.heap.size < w4.heap.size := World.block_lt_of_cell? _ _ nw_4; have Lam_4 : w3.heap.size < w4.heap.size := World.block_lt_of_cell? _ _ am_4; have Lk0_4 : w3.heap.size + 1 < w4.heap.size := World.block_lt_of_cell? _ _ k0_4; have HSn_4 : Hid (NdsAt w4 a S) := HSn_3.out.below hbb; have HUn_4 : Hid (NdsAt w4 a2 U) := HUn_3.out.below hbb; have HOn_4 : Hid (NdsAt w4 ao S) := HOn_3.out.below hbb; have HNn_4 : Hid (NdsAt w4 an Nw) := HNn_3.out.below hbb; have HAn_4 : Hid (NdsAt w4 aT T) := HAn_3.out.below hbb; have HXn_4 : Hid (IntsAt w4 ka xks) := hn2; have HB_4 : Hid (Below w.heap.size w w4) := HB_3.out.trans (hbb.mono HB_3.out.size); clear hn2; clear hb hbb Ls_3 Lh0_3 Lt_3 Lown_3 Lnw_3 s_3 h0_3 h1_3 t_3 own_3 nw_3 HSn_3 HUn_3 HOn_3 HNn_3 HAn_3 HB_3)
  go_wp2_with (go_at_call 13; refine (D5.out ao co _ (HOn_4.out.below (one_belowS _ _))).mono ?_; rintro e w5 ⟨aB, cB, rfl, hb, hn2⟩; have hbb : Below w4.heap.size w4 w5 := (one_belowS _ _).trans (hb.mono (by simp)); have s_5 : w5.cell? ⟨w.heap.size, 0, none⟩ = some (.slice a n c) := keepC s_4 hbb; have h0_5 : w5.cell? ⟨w.heap.size + 1, 0, none⟩ = some (.int .i64 p) := keepC h0_4 hbb; have h1_5 : w5.cell? ⟨w.heap.size + 1, 1, none⟩ = some (.int .i64 u) := keepC h1_4 hbb; have t_5 : w5.cell? ⟨w.heap.size + 1 + 1, 0, none⟩ = some (.slice a2 n2 c2) := keepC t_4 hbb; have own_5 : w5.cell? ⟨w1.heap.size, 0, none⟩ = some (.slice ao n co) := keepC own_4 hbb; have nw_5 : w5.cell? ⟨w2.heap.size, 0, none⟩ = some (.slice an nN cn) := keepC nw_4 hbb; have am_5 : w5.cell? ⟨w3.heap.size, 0, none⟩ = some (.slice aT nT cT) := keepC am_4 hbb; have k0_5 : w5.cell? ⟨w3.heap.size + 1, 0, none⟩ = some (.int .i64 kp) := keepC k0_4 hbb; have k1_5 : w5.cell? ⟨w3.heap.size + 1, 1, none⟩ = some (.int .i64 ku) := keepC k1_4 hbb; have x0_5 : w5.cell? ⟨w4.heap.size, 0, none⟩ = some (.bool xu) := keepC (alloc_cell _ _ _ 0 rfl) hb; have x1_5 : w5.cell? ⟨w4.heap.size, 1, none⟩ = some (.int .i64 xn) := keepC (alloc_cell _ _ _ 1 rfl) hb; have x2_5 : w5.cell? ⟨w4.heap.size, 2, none⟩ = some (.int .i64 xt) := keepC (alloc_cell _ _ _ 2 rfl) hb; have x3_5 : w5.cell? ⟨w4.heap.size, 3, none⟩ = some (.int .i64 xm) := keepC (alloc_cell _ _ _ 3 rfl) hb; have x4_5 : w5.cell? ⟨w4.heap.size, 4, none⟩ = some (.int .i64 xp) := keepC (alloc_cell _ _ _ 4 rfl) hb; have x5_5 : w5.cell? ⟨w4.heap.size, 5, none⟩ = some (.slice ka nX kc) := keepC (alloc_cell _ _ _ 5 rfl) hb; have x6_5 : w5.cell? ⟨w4.heap.size, 6, none⟩ = some (.int .i64 xh) := keepC (alloc_cell _ _ _ 6 rfl) hb; have x7_5 : w5.cell? ⟨w4.heap.size, 7, none⟩ = some (.bool xc) := keepC (alloc_cell _ _ _ 7 rfl) hb; have Ls_5 : w.heap.size < w5.heap.size := World.block_lt_of_cell? _ _ s_5; have Lh0_5 : w.heap.size + 1 < w5.heap.size := World.block_lt_of_cell? _ _ h0_5; have Lt_5 : w.heap.size + 1 + 1 < w5.heap.size := World.block_lt_of_cell? _ _ t_5; have Lown_5 : w1.heap.size < w5.heap.size := World.block_lt_of_cell? _ _ own_5; have Lnw_5 : w2.heap.size < w5.heap.size := World.block_lt_of_cell? _ _ nw_5; have Lam_5 : w3.heap.size < w5.heap.size := World.block_lt_of_cell? _ _ am_5; have Lk0_5 : w3.heap.size + 1 < w5.heap.size := World.block_lt_of_cell? _ _ k0_5; have Lx0_5 : w4.heap.size < w5.heap.size := World.block_lt_of_cell? _ _ x0_5; have HSn_5 : Hid (NdsAt w5 a S) := HSn_4.out.below hbb; have HUn_5 : Hid (NdsAt w5 a2 U) := HUn_4.out.below hbb; have HOn_5 : Hid (NdsAt w5 ao S) := HOn_4.out.below hbb; have HNn_5 : Hid (NdsAt w5 an Nw) := HNn_4.out.below hbb; have HAn_5 : Hid (NdsAt w5 aT T) := HAn_4.out.below hbb; have HXn_5 : Hid (IntsAt w5 ka xks) := HXn_4.out.below hbb; have HBn_5 : Hid (NdsAt w5 aB T2) := hn2; have HB_5 : Hid (Below w.heap.size w w5) := HB_4.out.trans (hbb.mono HB_4.out.size); clear hn2; clear hb hbb Ls_4 Lh0_4 Lt_4 Lown_4 Lnw_4 Lam_4 Lk0_4 s_4 h0_4 h1_4 t_4 own_4 nw_4 am_4 k0_4 k1_4 HSn_4 HUn_4 HOn_4 HNn_4 HAn_4 HXn_4 HB_4)
  go_wp2_with (go_at_call 14; refine (D6.out _ (HSn_5.out.below (one_belowS _ _))).mono ?_; rintro e w6 ⟨aT2, cT2, rfl, hb, hn2⟩; have hbb : Below w5.heap.size w5 w6 := (one_belowS _ _).trans (hb.mono (by simp)); have s_6 : w6.cell? ⟨w.heap.size, 0, none⟩ = some (.slice a n c) := keepC s_5 hbb; have h0_6 : w6.cell? ⟨w.heap.size + 1, 0, none⟩ = some (.int .i64 p) := keepC h0_5 hbb; have h1_6 : w6.cell? ⟨w.heap.size + 1, 1, none⟩ = some (.int .i64 u) := keepC h1_5 hbb; have t_6 : w6.cell? ⟨w.heap.size + 1 + 1, 0, none⟩ = some (.slice a2 n2 c2) := keepC t_5 hbb; have own_6 : w6.cell? ⟨w1.heap.size, 0, none⟩ = some (.slice ao n co) := keepC own_5 hbb; have nw_6 : w6.cell? ⟨w2.heap.size, 0, none⟩ = some (.slice an nN cn) := keepC nw_5 hbb; have am_6 : w6.cell? ⟨w3.heap.size, 0, none⟩ = some (.slice aT nT cT) := keepC am_5 hbb; have k0_6 : w6.cell? ⟨w3.heap.size + 1, 0, none⟩ = some (.int .i64 kp) := keepC k0_5 hbb; have k1_6 : w6.cell? ⟨w3.heap.size + 1, 1, none⟩ = some (.int .i64 ku) := keepC k1_5 hbb; have x0_6 : w6.cell? ⟨w4.heap.size, 0, none⟩ = some (.bool xu) := keepC x0_5 hbb; have x1_6 : w6.cell? ⟨w4.heap.size, 1, none⟩ = some (.int .i64 xn) := keepC x1_5 hbb; have x2_6 : w6.cell? ⟨w4.heap.size, 2, none⟩ = some (.int .i64 xt) := keepC x2_5 hbb; have x3_6 : w6.cell? ⟨w4.heap.size, 3, none⟩ = some (.int .i64 xm) := keepC x3_5 hbb; have x4_6 : w6.cell? ⟨w4.heap.size, 4, none⟩ = some (.int .i64 xp) := keepC x4_5 hbb; have x5_6 : w6.cell? ⟨w4.heap.size, 5, none⟩ = some (.slice ka nX kc) := keepC x5_5 hbb; have x6_6 : w6.cell? ⟨w4.heap.size, 6, none⟩ = some (.int .i64 xh) := keepC x6_5 hbb; have x7_6 : w6.cell? ⟨w4.heap.size, 7, none⟩ = some (.bool xc) := keepC x7_5 hbb; have bm_6 : w6.cell? ⟨w5.heap.size, 0, none⟩ = some (.slice aB nB cB) := keepC (alloc_cell _ _ _ 0 rfl) hb; have Ls_6 : w.heap.size < w6.heap.size := World.block_lt_of_cell? _ _ s_6; have Lh0_6 : w.heap.size + 1 < w6.heap.size := World.block_lt_of_cell? _ _ h0_6; have Lt_6 : w.heap.size + 1 + 1 < w6.heap.size := World.block_lt_of_cell? _ _ t_6; have Lown_6 : w1.heap.size < w6.heap.size := World.block_lt_of_cell? _ _ own_6; have Lnw_6 : w2.heap.size < w6.heap.size := World.block_lt_of_cell? _ _ nw_6; have Lam_6 : w3.heap.size < w6.heap.size := World.block_lt_of_cell? _ _ am_6; have Lk0_6 : w3.heap.size + 1 < w6.heap.size := World.block_lt_of_cell? _ _ k0_6; have Lx0_6 : w4.heap.size < w6.heap.size := World.block_lt_of_cell? _ _ x0_6; have Lbm_6 : w5.heap.size < w6.heap.size := World.block_lt_of_cell? _ _ bm_6; have HSn_6 : Hid (NdsAt w6 a S) := HSn_5.out.below hbb; have HUn_6 : Hid (NdsAt w6 a2 U) := HUn_5.out.below hbb; have HOn_6 : Hid (NdsAt w6 ao S) := HOn_5.out.below hbb; have HNn_6 : Hid (NdsAt w6 an Nw) := HNn_5.out.below hbb; have HAn_6 : Hid (NdsAt w6 aT T) := HAn_5.out.below hbb; have HXn_6 : Hid (IntsAt w6 ka xks) := HXn_5.out.below hbb; have HBn_6 : Hid (NdsAt w6 aB T2) := HBn_5.out.below hbb; have HA2n_6 : Hid (NdsAt w6 aT2 T) := hn2; have HB_6 : Hid (Below w.heap.size w w6) := HB_5.out.trans (hbb.mono HB_5.out.size); clear hn2; clear hb hbb Ls_5 Lh0_5 Lt_5 Lown_5 Lnw_5 Lam_5 Lk0_5 Lx0_5 s_5 h0_5 h1_5 t_5 own_5 nw_5 am_5 k0_5 k1_5 x0_5 x1_5 x2_5 x3_5 x4_5 x5_5 x6_5 x7_5 HSn_5 HUn_5 HOn_5 HNn_5 HAn_5 HXn_5 HBn_5 HB_5)
  go_wp2_with (go_at_call 15; refine (D7.out _ (HSn_6.out.below (two_belowS _ _ _))).mono ?_; rintro e w7 ⟨aB2, cB2, rfl, hb, hn2⟩; have hbb : Below w6.heap.size w6 w7 := (two_belowS _ _ _).trans (hb.mono (by simp; omega)); have s_7 : w7.cell? ⟨w.heap.size, 0, none⟩ = some (.slice a n c) := keepC s_6 hbb; have h0_7 : w7.cell? ⟨w.heap.size + 1, 0, none⟩ = some (.int .i64 p) := keepC h0_6 hbb; have h1_7 : w7.cell? ⟨w.heap.size + 1, 1, none⟩ = some (.int .i64 u) := keepC h1_6 hbb; have t_7 : w7.cell? ⟨w.heap.size + 1 + 1, 0, none⟩ = some (.slice a2 n2 c2) := keepC t_6 hbb; have own_7 : w7.cell? ⟨w1.heap.size, 0, none⟩ = some (.slice ao n co) := keepC own_6 hbb; have nw_7 : w7.cell? ⟨w2.heap.size, 0, none⟩ = some (.slice an nN cn) := keepC nw_6 hbb; have am_7 : w7.cell? ⟨w3.heap.size, 0, none⟩ = some (.slice aT nT cT) := keepC am_6 hbb; have k0_7 : w7.cell? ⟨w3.heap.size + 1, 0, none⟩ = some (.int .i64 kp) := keepC k0_6 hbb; have k1_7 : w7.cell? ⟨w3.heap.size + 1, 1, none⟩ = some (.int .i64 ku) := keepC k1_6 hbb; have x0_7 : w7.cell? ⟨w4.heap.size, 0, none⟩ = some (.bool xu) := keepC x0_6 hbb; have x1_7 : w7.cell? ⟨w4.heap.size, 1, none⟩ = some (.int .i64 xn) := keepC x1_6 hbb; have x2_7 : w7.cell? ⟨w4.heap.size, 2, none⟩ = some (.int .i64 xt) := keepC x2_6 hbb; have x3_7 : w7.cell? ⟨w4.heap.size, 3, none⟩ = some (.int .i64 xm) := keepC x3_6 hbb; have x4_7 : w7.cell? ⟨w4.heap.size, 4, none⟩ = some (.int .i64 xp) := keepC x4_6 hbb; have x5_7 : w7.cell? ⟨w4.heap.size, 5, none⟩ = some (.slice ka nX kc) := keepC x5_6 hbb; have x6_7 : w7.cell? ⟨w4.heap.size, 6, none⟩ = some (.int .i64 xh) := keepC x6_6 hbb; have x7_7 : w7.cell? ⟨w4.heap.size, 7, none⟩ = some (.bool xc) := keepC x7_6 hbb; have bm_7 : w7.cell? ⟨w5.heap.size, 0, none⟩ = some (.slice aB nB cB) := keepC bm_6 hbb; have Am_7 : w7.cell? ⟨w6.heap.size, 0, none⟩ = some (.slice aT2 nT cT2) := keepC (alloc_cell1 _ _ _ 0 _ rfl) hb; have K0_7 : w7.cell? ⟨w6.heap.size + 1, 0, none⟩ = some (.int .i64 kp) := keepC (alloc_cell2 _ _ _ 0 _ rfl) hb; have K1_7 : w7.cell? ⟨w6.heap.size + 1, 1, none⟩ = some (.int .i64 ku) := keepC (alloc_cell2 _ _ _ 1 _ rfl) hb; have Ls_7 : w.heap.size < w7.heap.size := World.block_lt_of_cell? _ _ s_7; have Lh0_7 : w.heap.size + 1 < w7.heap.size := World.block_lt_of_cell? _ _ h0_7; have Lt_7 : w.heap.size + 1 + 1 < w7.heap.size := World.block_lt_of_cell? _ _ t_7; have Lown_7 : w1.heap.size < w7.heap.size := World.block_lt_of_cell? _ _ own_7; have Lnw_7 : w2.heap.size < w7.heap.size := World.block_lt_of_cell? _ _ nw_7; have Lam_7 : w3.heap.size < w7.heap.size := World.block_lt_of_cell? _ _ am_7; have Lk0_7 : w3.heap.size + 1 < w7.heap.size := World.block_lt_of_cell? _ _ k0_7; have Lx0_7 : w4.heap.size < w7.heap.size := World.block_lt_of_cell? _ _ x0_7; have Lbm_7 : w5.heap.size < w7.heap.size := World.block_lt_of_cell? _ _ bm_7; have LAm_7 : w6.heap.size < w7.heap.size := World.block_lt_of_cell? _ _ Am_7; have LK0_7 : w6.heap.size + 1 < w7.heap.size := World.block_lt_of_cell? _ _ K0_7; have HSn_7 : Hid (NdsAt w7 a S) := HSn_6.out.below hbb; have HUn_7 : Hid (NdsAt w7 a2 U) := HUn_6.out.below hbb; have HOn_7 : Hid (NdsAt w7 ao S) := HOn_6.out.below hbb; have HNn_7 : Hid (NdsAt w7 an Nw) := HNn_6.out.below hbb; have HAn_7 : Hid (NdsAt w7 aT T) := HAn_6.out.below hbb; have HXn_7 : Hid (IntsAt w7 ka xks) := HXn_6.out.below hbb; have HBn_7 : Hid (NdsAt w7 aB T2) := HBn_6.out.below hbb; have HA2n_7 : Hid (NdsAt w7 aT2 T) := HA2n_6.out.below hbb; have HB2n_7 : Hid (NdsAt w7 aB2 T2) := hn2; have HB_7 : Hid (Below w.heap.size w w7) := HB_6.out.trans (hbb.mono HB_6.out.size); clear hn2; clear hb hbb Ls_6 Lh0_6 Lt_6 Lown_6 Lnw_6 Lam_6 Lk0_6 Lx0_6 Lbm_6 s_6 h0_6 h1_6 t_6 own_6 nw_6 am_6 k0_6 k1_6 x0_6 x1_6 x2_6 x3_6 x4_6 x5_6 x6_6 x7_6 bm_6 HSn_6 HUn_6 HOn_6 HNn_6 HAn_6 HXn_6 HBn_6 HA2n_6 HB_6)
  go_wp2_with (go_at_call 16; refine (D8.out _ (HSn_7.out.below (one_belowS _ _))).mono ?_; rintro e w8 ⟨rfl, hb⟩; have hbb : Below w7.heap.size w7 w8 := (one_belowS _ _).trans (hb.mono (by simp)); have s_8 : w8.cell? ⟨w.heap.size, 0, none⟩ = some (.slice a n c) := keepC s_7 hbb; have h0_8 : w8.cell? ⟨w.heap.size + 1, 0, none⟩ = some (.int .i64 p) := keepC h0_7 hbb; have h1_8 : w8.cell? ⟨w.heap.size + 1, 1, none⟩ = some (.int .i64 u) := keepC h1_7 hbb; have t_8 : w8.cell? ⟨w.heap.size + 1 + 1, 0, none⟩ = some (.slice a2 n2 c2) := keepC t_7 hbb; have own_8 : w8.cell? ⟨w1.heap.size, 0, none⟩ = some (.slice ao n co) := keepC own_7 hbb; have nw_8 : w8.cell? ⟨w2.heap.size, 0, none⟩ = some (.slice an nN cn) := keepC nw_7 hbb; have am_8 : w8.cell? ⟨w3.heap.size, 0, none⟩ = some (.slice aT nT cT) := keepC am_7 hbb; have k0_8 : w8.cell? ⟨w3.heap.size + 1, 0, none⟩ = some (.int .i64 kp) := keepC k0_7 hbb; have k1_8 : w8.cell? ⟨w3.heap.size + 1, 1, none⟩ = some (.int .i64 ku) := keepC k1_7 hbb; have x0_8 : w8.cell? ⟨w4.heap.size, 0, none⟩ = some (.bool xu) := keepC x0_7 hbb; have x1_8 : w8.cell? ⟨w4.heap.size, 1, none⟩ = some (.int .i64 xn) := keepC x1_7 hbb; have x2_8 : w8.cell? ⟨w4.heap.size, 2, none⟩ = some (.int .i64 xt) := keepC x2_7 hbb; have x3_8 : w8.cell? ⟨w4.heap.size, 3, none⟩ = some (.int .i64 xm) := keepC x3_7 hbb; have x4_8 : w8.cell? ⟨w4.heap.size, 4, none⟩ = some (.int .i64 xp) := keepC x4_7 hbb; have x5_8 : w8.cell? ⟨w4.heap.size, 5, none⟩ = some (.slice ka nX kc) := keepC x5_7 hbb; have x6_8 : w8.cell? ⟨w4.heap.size, 6, none⟩ = some (.int .i64 xh) := keepC x6_7 hbb; have x7_8 : w8.cell? ⟨w4.heap.size, 7, none⟩ = some (.bool xc) := keepC x7_7 hbb; have bm_8 : w8.cell? ⟨w5.heap.size, 0, none⟩ = some (.slice aB nB cB) := keepC bm_7 hbb; have Am_8 : w8.cell? ⟨w6.heap.size, 0, none⟩ = some (.slice aT2 nT cT2) := keepC Am_7 hbb; have K0_8 : w8.cell? ⟨w6.heap.size + 1, 0, none⟩ = some (.int .i64 kp) := keepC K0_7 hbb; have K1_8 : w8.cell? ⟨w6.heap.size + 1, 1, none⟩ = some (.int .i64 ku) := keepC K1_7 hbb; have Bm_8 : w8.cell? ⟨w7.heap.size, 0, none⟩ = some (.slice aB2 nB cB2) := keepC (alloc_cell _ _ _ 0 rfl) hb; have Ls_8 : w.heap.size < w8.heap.size := World.block_lt_of_cell? _ _ s_8; have Lh0_8 : w.heap.size + 1 < w8.heap.size := World.block_lt_of_cell? _ _ h0_8; have Lt_8 : w.heap.size + 1 + 1 < w8.heap.size := World.block_lt_of_cell? _ _ t_8; have Lown_8 : w1.heap.size < w8.heap.size := World.block_lt_of_cell? _ _ own_8; have Lnw_8 : w2.heap.size < w8.heap.size := World.block_lt_of_cell? _ _ nw_8; have Lam_8 : w3.heap.size < w8.heap.size := World.block_lt_of_cell? _ _ am_8; have Lk0_8 : w3.heap.size + 1 < w8.heap.size := World.block_lt_of_cell? _ _ k0_8; have Lx0_8 : w4.heap.size < w8.heap.size := World.block_lt_of_cell? _ _ x0_8; have Lbm_8 : w5.heap.size < w8.heap.size := World.block_lt_of_cell? _ _ bm_8; have LAm_8 : w6.heap.size < w8.heap.size := World.block_lt_of_cell? _ _ Am_8; have LK0_8 : w6.heap.size + 1 < w8.heap.size := World.block_lt_of_cell? _ _ K0_8; have LBm_8 : w7.heap.size < w8.heap.size := World.block_lt_of_cell? _ _ Bm_8; have HSn_8 : Hid (NdsAt w8 a S) := HSn_7.out.below hbb; have HUn_8 : Hid (NdsAt w8 a2 U) := HUn_7.out.below hbb; have HOn_8 : Hid (NdsAt w8 ao S) := HOn_7.out.below hbb; have HNn_8 : Hid (NdsAt w8 an Nw) := HNn_7.out.below hbb; have HAn_8 : Hid (NdsAt w8 aT T) := HAn_7.out.below hbb; have HXn_8 : Hid (IntsAt w8 ka xks) := HXn_7.out.below hbb; have HBn_8 : Hid (NdsAt w8 aB T2) := HBn_7.out.below hbb; have HA2n_8 : Hid (NdsAt w8 aT2 T) := HA2n_7.out.below hbb; have HB2n_8 : Hid (NdsAt w8 aB2 T2) := HB2n_7.out.below hbb; have HB_8 : Hid (Below w.heap.size w w8) := HB_7.out.trans (hbb.mono HB_7.out.size); clear hb hbb Ls_7 Lh0_7 Lt_7 Lown_7 Lnw_7 Lam_7 Lk0_7 Lx0_7 Lbm_7 LAm_7 LK0_7 s_7 h0_7 h1_7 t_7 own_7 nw_7 am_7 k0_7 k1_7 x0_7 x1_7 x2_7 x3_7 x4_7 x5_7 x6_7 x7_7 bm_7 Am_7 K0_7 K1_7 HSn_7 HUn_7 HOn_7 HNn_7 HAn_7 HXn_7 HBn_7 HA2n_7 HB2n_7 HB_7)
  have PK : Hid (w8.cell? ⟨w2.heap.size, 0, none⟩ = some (.slice an nN cn) ∧ w8.cell? ⟨w3.heap.size, 0, none⟩ = some (.slice aT nT cT) ∧ w8.cell? ⟨w3.heap.size + 1, 0, none⟩ = some (.int .i64 kp) ∧ w8.cell? ⟨w3.heap.size + 1, 1, none⟩ = some (.int .i64 ku) ∧ w8.cell? ⟨w4.heap.size, 0, none⟩ = some (.bool xu) ∧ w8.cell? ⟨w4.heap.size, 1, none⟩ = some (.int .i64 xn) ∧ w8.cell? ⟨w4.heap.size, 2, none⟩ = some (.int .i64 xt) ∧ w8.cell? ⟨w4.heap.size, 3, none⟩ = some (.int .i64 xm) ∧ w8.cell? ⟨w4.heap.size, 4, none⟩ = some (.int .i64 xp) ∧ w8.cell? ⟨w4.heap.size, 5, none⟩ = some (.slice ka nX kc) ∧ w8.cell? ⟨w4.heap.size, 6, none⟩ = some (.int .i64 xh) ∧ w8.cell? ⟨w4.heap.size, 7, none⟩ = some (.bool xc) ∧ w8.cell? ⟨w5.heap.size, 0, none⟩ = some (.slice aB nB cB) ∧ w8.cell? ⟨w6.heap.size, 0, none⟩ = some (.slice aT2 nT cT2) ∧ w8.cell? ⟨w6.heap.size + 1, 0, none⟩ = some (.int .i64 kp) ∧ w8.cell? ⟨w6.heap.size + 1, 1, none⟩ = some (.int .i64 ku) ∧ w8.cell? ⟨w7.heap.size, 0, none⟩ = some (.slice aB2 nB cB2)) := ⟨nw_8, am_8, k0_8, k1_8, x0_8, x1_8, x2_8, x3_8, x4_8, x5_8, x6_8, x7_8, bm_8, Am_8, K0_8, K1_8, Bm_8⟩
  clear nw_8 am_8 k0_8 k1_8 x0_8 x1_8 x2_8 x3_8 x4_8 x5_8 x6_8 x7_8 bm_8 Am_8 K0_8 K1_8 Bm_8 Lnw_8 Lam_8 Lk0_8 Lx0_8 Lbm_8 LAm_8 LK0_8 LBm_8
  clear D1 D2 D3 D4 D5 D6 D7 D8 hN hN0 tl tl2 nl
  go_region_held3 (fun w'' => w''.cell? ⟨w.heap.size, 0, none⟩ = some (.slice a n c) ∧ w''.cell? ⟨w.heap.size + 1, 0, none⟩ = some (.int .i64 p) ∧ w''.cell? ⟨w.heap.size + 1, 1, none⟩ = some (.int .i64 u) ∧ w''.cell? ⟨w.heap.size + 1 + 1, 0, none⟩ = some (.slice a2 n2 c2) ∧ w''.cell? ⟨w1.heap.size, 0, none⟩ = some (.slice ao n co)) (go_keep) (first | (go_at_call 17; refine Calls.mono (Room.stored_any _) ?_; rintro e w9 ⟨rfl, hb⟩; have HR_9 : Hid (Below w8.heap.size w8 w9) := (Below.refl w8.heap.size w8).drew.trans hb; have s_9 : w9.cell? ⟨w.heap.size, 0, none⟩ = some (.slice a n c) := keepC s_8 HR_9.out; have Ls_9 : w.heap.size < w9.heap.size := World.block_lt_of_cell? _ _ s_9; have h0_9 : w9.cell? ⟨w.heap.size + 1, 0, none⟩ = some (.int .i64 p) := keepC h0_8 HR_9.out; have Lh0_9 : w.heap.size + 1 < w9.heap.size := World.block_lt_of_cell? _ _ h0_9; have h1_9 : w9.cell? ⟨w.heap.size + 1, 1, none⟩ = some (.int .i64 u) := keepC h1_8 HR_9.out; have t_9 : w9.cell? ⟨w.heap.size + 1 + 1, 0, none⟩ = some (.slice a2 n2 c2) := keepC t_8 HR_9.out; have Lt_9 : w.heap.size + 1 + 1 < w9.heap.size := World.block_lt_of_cell? _ _ t_9; have own_9 : w9.cell? ⟨w1.heap.size, 0, none⟩ = some (.slice ao n co) := keepC own_8 HR_9.out; have Lown_9 : w1.heap.size < w9.heap.size := World.block_lt_of_cell? _ _ own_9; clear hb) | (go_at_call 18; refine Calls.mono (D9.out _ (HSn_8.out.below HR_9.out)) ?_; rintro e w10 ⟨rfl, hb⟩; have HR_10 : Hid (Below w8.heap.size w8 w10) := HR_9.out.trans (hb.mono HR_9.out.size); have s_10 : w10.cell? ⟨w.heap.size, 0, none⟩ = some (.slice a n c) := keepC s_8 HR_10.out; have Ls_10 : w.heap.size < w10.heap.size := World.block_lt_of_cell? _ _ s_10; have h0_10 : w10.cell? ⟨w.heap.size + 1, 0, none⟩ = some (.int .i64 p) := keepC h0_8 HR_10.out; have Lh0_10 : w.heap.size + 1 < w10.heap.size := World.block_lt_of_cell? _ _ h0_10; have h1_10 : w10.cell? ⟨w.heap.size + 1, 1, none⟩ = some (.int .i64 u) := keepC h1_8 HR_10.out; have t_10 : w10.cell? ⟨w.heap.size + 1 + 1, 0, none⟩ = some (.slice a2 n2 c2) := keepC t_8 HR_10.out; have Lt_10 : w.heap.size + 1 + 1 < w10.heap.size := World.block_lt_of_cell? _ _ t_10; have own_10 : w10.cell? ⟨w1.heap.size, 0, none⟩ = some (.slice ao n co) := keepC own_8 HR_10.out; have Lown_10 : w1.heap.size < w10.heap.size := World.block_lt_of_cell? _ _ own_10; clear hb) | (go_at_call 19; refine Calls.mono (D10.out _ (HSn_8.out.below HR_10.out) (HUn_8.out.below HR_10.out)) ?_; rintro e w11 ⟨r, rfl, hb, hr⟩; have HR_11 : Hid (Below w8.heap.size w8 w11) := HR_10.out.trans (hb.mono HR_10.out.size); have s_11 : w11.cell? ⟨w.heap.size, 0, none⟩ = some (.slice a n c) := keepC s_8 HR_11.out; have Ls_11 : w.heap.size < w11.heap.size := World.block_lt_of_cell? _ _ s_11; have h0_11 : w11.cell? ⟨w.heap.size + 1, 0, none⟩ = some (.int .i64 p) := keepC h0_8 HR_11.out; have Lh0_11 : w.heap.size + 1 < w11.heap.size := World.block_lt_of_cell? _ _ h0_11; have h1_11 : w11.cell? ⟨w.heap.size + 1, 1, none⟩ = some (.int .i64 u) := keepC h1_8 HR_11.out; have t_11 : w11.cell? ⟨w.heap.size + 1 + 1, 0, none⟩ = some (.slice a2 n2 c2) := keepC t_8 HR_11.out; have Lt_11 : w.heap.size + 1 + 1 < w11.heap.size := World.block_lt_of_cell? _ _ t_11; have own_11 : w11.cell? ⟨w1.heap.size, 0, none⟩ = some (.slice ao n co) := keepC own_8 HR_11.out; have Lown_11 : w1.heap.size < w11.heap.size := World.block_lt_of_cell? _ _ own_11; have HRr : Hid _ := hr; clear hr; clear hb) | (go_at_call_of 20 (Value.agg #[Value.slice a2 n2 c2]); refine Calls.mono (D11.out _ (HSn_8.out.below HR_11.out) (HUn_8.out.below HR_11.out)) ?_; rintro e w12 ⟨r2, rfl, hb, hr⟩; have HR_12 : Hid (Below w8.heap.size w8 w12) := HR_11.out.trans (hb.mono HR_11.out.size); have s_12 : w12.cell? ⟨w.heap.size, 0, none⟩ = some (.slice a n c) := keepC s_8 HR_12.out; have Ls_12 : w.heap.size < w12.heap.size := World.block_lt_of_cell? _ _ s_12; have h0_12 : w12.cell? ⟨w.heap.size + 1, 0, none⟩ = some (.int .i64 p) := keepC h0_8 HR_12.out; have Lh0_12 : w.heap.size + 1 < w12.heap.size := World.block_lt_of_cell? _ _ h0_12; have h1_12 : w12.cell? ⟨w.heap.size + 1, 1, none⟩ = some (.int .i64 u) := keepC h1_8 HR_12.out; have t_12 : w12.cell? ⟨w.heap.size + 1 + 1, 0, none⟩ = some (.slice a2 n2 c2) := keepC t_8 HR_12.out; have Lt_12 : w.heap.size + 1 + 1 < w12.heap.size := World.block_lt_of_cell? _ _ t_12; have own_12 : w12.cell? ⟨w1.heap.size, 0, none⟩ = some (.slice ao n co) := keepC own_8 HR_12.out; have Lown_12 : w1.heap.size < w12.heap.size := World.block_lt_of_cell? _ _ own_12; have hrr : r2 = r := bool_same HRr.out hr; subst hrr; clear hr; clear hb) | (go_at_call 21; refine Calls.mono (D12.out _ (HSn_8.out.below HR_12.out)) ?_; rintro e w13 ⟨rfl, hb⟩; have HR_13 : Hid (Below w8.heap.size w8 w13) := HR_12.out.trans (hb.mono HR_12.out.size); have s_13 : w13.cell? ⟨w.heap.size, 0, none⟩ = some (.slice a n c) := keepC s_8 HR_13.out; have Ls_13 : w.heap.size < w13.heap.size := World.block_lt_of_cell? _ _ s_13; have h0_13 : w13.cell? ⟨w.heap.size + 1, 0, none⟩ = some (.int .i64 p) := keepC h0_8 HR_13.out; have Lh0_13 : w.heap.size + 1 < w13.heap.size := World.block_lt_of_cell? _ _ h0_13; have h1_13 : w13.cell? ⟨w.heap.size + 1, 1, none⟩ = some (.int .i64 u) := keepC h1_8 HR_13.out; have t_13 : w13.cell? ⟨w.heap.size + 1 + 1, 0, none⟩ = some (.slice a2 n2 c2) := keepC t_8 HR_13.out; have Lt_13 : w.heap.size + 1 + 1 < w13.heap.size := World.block_lt_of_cell? _ _ t_13; have own_13 : w13.cell? ⟨w1.heap.size, 0, none⟩ = some (.slice ao n co) := keepC own_8 HR_13.out; have Lown_13 : w1.heap.size < w13.heap.size := World.block_lt_of_cell? _ _ own_13; clear hb) | (go_at_call 22; refine Calls.mono (D13.out _ (HSn_8.out.below HR_13.out)) ?_; rintro e w14 ⟨rfl, hb⟩; have HR_14 : Hid (Below w8.heap.size w8 w14) := HR_13.out.trans (hb.mono HR_13.out.size); have s_14 : w14.cell? ⟨w.heap.size, 0, none⟩ = some (.slice a n c) := keepC s_8 HR_14.out; have Ls_14 : w.heap.size < w14.heap.size := World.block_lt_of_cell? _ _ s_14; have h0_14 : w14.cell? ⟨w.heap.size + 1, 0, none⟩ = some (.int .i64 p) := keepC h0_8 HR_14.out; have Lh0_14 : w.heap.size + 1 < w14.heap.size := World.block_lt_of_cell? _ _ h0_14; have h1_14 : w14.cell? ⟨w.heap.size + 1, 1, none⟩ = some (.int .i64 u) := keepC h1_8 HR_14.out; have t_14 : w14.cell? ⟨w.heap.size + 1 + 1, 0, none⟩ = some (.slice a2 n2 c2) := keepC t_8 HR_14.out; have Lt_14 : w.heap.size + 1 + 1 < w14.heap.size := World.block_lt_of_cell? _ _ t_14; have own_14 : w14.cell? ⟨w1.heap.size, 0, none⟩ = some (.slice ao n co) := keepC own_8 HR_14.out; have Lown_14 : w1.heap.size < w14.heap.size := World.block_lt_of_cell? _ _ own_14; clear hb) | (go_at_call_of 20 (Value.agg #[Value.slice ao n co]); refine Calls.mono (D14.out ao co _ (HOn_8.out.below HR_14.out) (HSn_8.out.below HR_14.out)) ?_; rintro e w15 ⟨r3, rfl, hb, hr⟩; have HR_15 : Hid (Below w8.heap.size w8 w15) := HR_14.out.trans (hb.mono HR_14.out.size); have s_15 : w15.cell? ⟨w.heap.size, 0, none⟩ = some (.slice a n c) := keepC s_8 HR_15.out; have Ls_15 : w.heap.size < w15.heap.size := World.block_lt_of_cell? _ _ s_15; have h0_15 : w15.cell? ⟨w.heap.size + 1, 0, none⟩ = some (.int .i64 p) := keepC h0_8 HR_15.out; have Lh0_15 : w.heap.size + 1 < w15.heap.size := World.block_lt_of_cell? _ _ h0_15; have h1_15 : w15.cell? ⟨w.heap.size + 1, 1, none⟩ = some (.int .i64 u) := keepC h1_8 HR_15.out; have t_15 : w15.cell? ⟨w.heap.size + 1 + 1, 0, none⟩ = some (.slice a2 n2 c2) := keepC t_8 HR_15.out; have Lt_15 : w.heap.size + 1 + 1 < w15.heap.size := World.block_lt_of_cell? _ _ t_15; have own_15 : w15.cell? ⟨w1.heap.size, 0, none⟩ = some (.slice ao n co) := keepC own_8 HR_15.out; have Lown_15 : w1.heap.size < w15.heap.size := World.block_lt_of_cell? _ _ own_15; have hr3 : r3 = true := (by first | exact hr.2 rfl | exact hr.2 trivial); subst hr3; clear hr; clear hb))
  obtain ⟨nw_p, am_p, k0_p, k1_p, x0_p, x1_p, x2_p, x3_p, x4_p, x5_p, x6_p, x7_p, bm_p, Am_p, K0_p, K1_p, Bm_p⟩ := PK.out
  have nw_15 : w15.cell? ⟨w2.heap.size, 0, none⟩ = some (.slice an nN cn) := keepC nw_p HR_15.out
  have am_15 : w15.cell? ⟨w3.heap.size, 0, none⟩ = some (.slice aT nT cT) := keepC am_p HR_15.out
  have k0_15 : w15.cell? ⟨w3.heap.size + 1, 0, none⟩ = some (.int .i64 kp) := keepC k0_p HR_15.out
  have k1_15 : w15.cell? ⟨w3.heap.size + 1, 1, none⟩ = some (.int .i64 ku) := keepC k1_p HR_15.out
  have x0_15 : w15.cell? ⟨w4.heap.size, 0, none⟩ = some (.bool xu) := keepC x0_p HR_15.out
  have x1_15 : w15.cell? ⟨w4.heap.size, 1, none⟩ = some (.int .i64 xn) := keepC x1_p HR_15.out
  have x2_15 : w15.cell? ⟨w4.heap.size, 2, none⟩ = some (.int .i64 xt) := keepC x2_p HR_15.out
  have x3_15 : w15.cell? ⟨w4.heap.size, 3, none⟩ = some (.int .i64 xm) := keepC x3_p HR_15.out
  have x4_15 : w15.cell? ⟨w4.heap.size, 4, none⟩ = some (.int .i64 xp) := keepC x4_p HR_15.out
  have x5_15 : w15.cell? ⟨w4.heap.size, 5, none⟩ = some (.slice ka nX kc) := keepC x5_p HR_15.out
  have x6_15 : w15.cell? ⟨w4.heap.size, 6, none⟩ = some (.int .i64 xh) := keepC x6_p HR_15.out
  have x7_15 : w15.cell? ⟨w4.heap.size, 7, none⟩ = some (.bool xc) := keepC x7_p HR_15.out
  have bm_15 : w15.cell? ⟨w5.heap.size, 0, none⟩ = some (.slice aB nB cB) := keepC bm_p HR_15.out
  have Am_15 : w15.cell? ⟨w6.heap.size, 0, none⟩ = some (.slice aT2 nT cT2) := keepC Am_p HR_15.out
  have K0_15 : w15.cell? ⟨w6.heap.size + 1, 0, none⟩ = some (.int .i64 kp) := keepC K0_p HR_15.out
  have K1_15 : w15.cell? ⟨w6.heap.size + 1, 1, none⟩ = some (.int .i64 ku) := keepC K1_p HR_15.out
  have Bm_15 : w15.cell? ⟨w7.heap.size, 0, none⟩ = some (.slice aB2 nB cB2) := keepC Bm_p HR_15.out
  have Lnw_15 := World.block_lt_of_cell? _ _ nw_15
  have Lam_15 := World.block_lt_of_cell? _ _ am_15
  have Lk0_15 := World.block_lt_of_cell? _ _ k0_15
  have Lx0_15 := World.block_lt_of_cell? _ _ x0_15
  have Lbm_15 := World.block_lt_of_cell? _ _ bm_15
  have LAm_15 := World.block_lt_of_cell? _ _ Am_15
  have LK0_15 := World.block_lt_of_cell? _ _ K0_15
  have LBm_15 := World.block_lt_of_cell? _ _ Bm_15
  have HSn_15 : Hid (NdsAt w15 a S) := HSn_8.out.below HR_15.out
  have HUn_15 : Hid (NdsAt w15 a2 U) := HUn_8.out.below HR_15.out
  have HOn_15 : Hid (NdsAt w15 ao S) := HOn_8.out.below HR_15.out
  have HNn_15 : Hid (NdsAt w15 an Nw) := HNn_8.out.below HR_15.out
  have HAn_15 : Hid (NdsAt w15 aT T) := HAn_8.out.below HR_15.out
  have HXn_15 : Hid (IntsAt w15 ka xks) := HXn_8.out.below HR_15.out
  have HBn_15 : Hid (NdsAt w15 aB T2) := HBn_8.out.below HR_15.out
  have HA2n_15 : Hid (NdsAt w15 aT2 T) := HA2n_8.out.below HR_15.out
  have HB2n_15 : Hid (NdsAt w15 aB2 T2) := HB2n_8.out.below HR_15.out
  have HB_15 : Hid (Below w.heap.size w w15) := HB_8.out.trans (HR_15.out.mono HB_8.out.size)
  clear PK nw_p am_p k0_p k1_p x0_p x1_p x2_p x3_p x4_p x5_p x6_p x7_p bm_p Am_p K0_p K1_p Bm_p
  clear s_8 h0_8 h1_8 t_8 own_8 Ls_8 Lh0_8 Lt_8 Lown_8
  clear s_9 h0_9 h1_9 t_9 own_9 Ls_9 Lh0_9 Lt_9 Lown_9
  clear s_10 h0_10 h1_10 t_10 own_10 Ls_10 Lh0_10 Lt_10 Lown_10
  clear s_11 h0_11 h1_11 t_11 own_11 Ls_11 Lh0_11 Lt_11 Lown_11
  clear s_12 h0_12 h1_12 t_12 own_12 Ls_12 Lh0_12 Lt_12 Lown_12
  clear s_13 h0_13 h1_13 t_13 own_13 Ls_13 Lh0_13 Lt_13 Lown_13
  clear s_14 h0_14 h1_14 t_14 own_14 Ls_14 Lh0_14 Lt_14 Lown_14
  clear HSn_8 HUn_8 HOn_8 HNn_8 HAn_8 HXn_8 HBn_8 HA2n_8 HB2n_8 HB_8 HR_9 HR_10 HR_11 HR_12 HR_13 HR_14 HR_15
  clear D9 D10 D11 D12 D14 HRr
  obtain ⟨BP, hBP⟩ : ∃ b : Bool, decide (pl < 0 ∨ 24 < pl) = b := ⟨_, rfl⟩
  have HBP : Hid (decide (pl < 0 ∨ 24 < pl) = BP) := hBP
  clear hBP
  go_upto_region 11 with fail
  go_cut [107] (fun s107 wx => s107 = .bool BP ∧ wx = w15)
  case first =>
    have hb3 := HBP.out
    by_cases h1 : pl < 0
    · have e : BP = true := by rw [← hb3]; exact decide_eq_true (Or.inl h1)
      subst e
      clear hb3 HBP
      have b1 : decide (pl < 0) = true := decide_eq_true h1
      go_wp2_with fail
      go_meet
      case rel => exact ⟨rfl, rfl⟩
    · have b1 : decide (pl < 0) = false := decide_eq_false h1
      by_cases h2 : 24 < pl
      · have e : BP = true := by rw [← hb3]; exact decide_eq_true (Or.inr h2)
        subst e
        clear hb3 HBP
        have b2 : decide (24 < pl) = true := decide_eq_true h2
        go_wp2_with fail
        go_meet
        case rel => exact ⟨rfl, rfl⟩
      · have e : BP = false := by rw [← hb3]; exact decide_eq_false (by omega)
        subst e
        clear hb3 HBP
        have b2 : decide (24 < pl) = false := decide_eq_false h2
        go_wp2_with fail
        go_meet
        case rel => exact ⟨rfl, rfl⟩
  case rest =>
  obtain ⟨rfl, hwc⟩ := hcut
  have hwc2 := hwc.symm
  clear hwc
  subst hwc2
  go_upto_if 107 with fail
  go_cut [26] (fun s26 wx => s26 = .int .i64 E0 ∧ Hid (Below w15.heap.size w15 wx))
  case first =>
    cases BP with
    | true =>
      obtain ⟨e1, e2⟩ := NB1.out (of_decide_eq_true HBP.out)
      have e3 : nN = 0 := by have := HNN.out; rw [e1] at this; exact this.symm
      subst e2 e3
      go_wp2_with fail
      go_meet
      case rel => exact ⟨rfl, (Below.refl _ _ : Below w15.heap.size w15 w15)⟩
    | false =>
      have hpl : ¬ (pl < 0 ∨ 24 < pl) := of_decide_eq_false HBP.out
      obtain ⟨m, hm⟩ : ∃ m : Nat, pl = m := ⟨pl.toNat, by omega⟩
      have hm24 : m ≤ 24 := by omega
      obtain ⟨e1, e2⟩ := NB2.out (by omega)
      rw [hm, Int.toNat_natCast] at e1
      subst e2
      subst hm
      have hmn : m = nN := by rw [← HNN.out, e1, List.length_replicate]
      have HNW : Hid (List.replicate m unusedNd = Nw) := e1.symm
      have DRp : Hid (∀ (xb xc : Nat) W, (∀ j, j < 8 → W.cell? ⟨xb, j, none⟩ = some (patV j)) → Calls Try.prog 23 #[.slice (some ⟨xb, 0, none⟩) 1 xc, .int .i64 m] W fun e w' => ∃ g, e = .returned (.slice (some ⟨g, 0, none⟩) nN m) ∧ Below W.heap.size W w' ∧ NdsAt w' (some ⟨g, 0, none⟩) Nw) := fun xb xc W h => by
        have := repeat_one m xb xc hm24 W h
        rw [e1, ← hmn]
        exact this
      clear e1 NB1 NB2 hpl HBP hmn
      skip
      go_upto_region 14 with fail
      go_region_held3 (fun w'' => w''.cell? ⟨w2.heap.size, 0, none⟩ = some (.slice an nN cn)) (go_keep) (first | (go_at_call 23; refine Calls.mono (DRp.out _ _ _ (pat_alloc _)) ?_; rintro e w16 ⟨gr, rfl, hb, hn2⟩; have HR_16 : Hid (Below w15.heap.size w15 w16) := (by first | exact ((Below.refl w15.heap.size w15).drew.alloc (by simp) _).trans (hb.mono (by simp)) | exact ((Below.refl w15.heap.size w15).alloc (by simp) _).trans (hb.mono (by simp))); have HG_16 : Hid (NdsAt w16 (some ⟨gr, 0, none⟩) Nw) := hn2; have nw_16 : w16.cell? ⟨w2.heap.size, 0, none⟩ = some (.slice an nN cn) := keepC nw_15 HR_16.out; have Lnw_16 := World.block_lt_of_cell? _ _ nw_16; clear hb hn2) | (go_at_call 20; refine Calls.mono (D17.out an cn (some ⟨gr, 0, none⟩) m _ (HNn_15.out.below HR_16.out) HG_16.out) ?_; rintro e w17 ⟨r4, rfl, hb, hr⟩; have hr4 : r4 = true := (by first | exact hr.2 rfl | exact hr.2 trivial); subst hr4; have HR_17 : Hid (Below w15.heap.size w15 w17) := HR_16.out.trans (hb.mono HR_16.out.size); have nw_17 : w17.cell? ⟨w2.heap.size, 0, none⟩ = some (.slice an nN cn) := keepC nw_15 HR_17.out; have Lnw_17 := World.block_lt_of_cell? _ _ nw_17; clear hb hr))
      go_wp2_with fail
      go_meet
      case rel => exact ⟨rfl, HR_17⟩
  case rest =>
  obtain ⟨rfl, HBc⟩ := hcut
  obtain ⟨w16, rfl⟩ : ∃ W, W = wc := ⟨_, rfl⟩
  have s_16 : w16.cell? ⟨w.heap.size, 0, none⟩ = some (.slice a n c) := keepC s_15 HBc.out
  have Ls_16 : w.heap.size < w16.heap.size := World.block_lt_of_cell? _ _ s_16
  have h0_16 : w16.cell? ⟨w.heap.size + 1, 0, none⟩ = some (.int .i64 p) := keepC h0_15 HBc.out
  have Lh0_16 : w.heap.size + 1 < w16.heap.size := World.block_lt_of_cell? _ _ h0_16
  have h1_16 : w16.cell? ⟨w.heap.size + 1, 1, none⟩ = some (.int .i64 u) := keepC h1_15 HBc.out
  have am_16 : w16.cell? ⟨w3.heap.size, 0, none⟩ = some (.slice aT nT cT) := keepC am_15 HBc.out
  have Lam_16 : w3.heap.size < w16.heap.size := World.block_lt_of_cell? _ _ am_16
  have k0_16 : w16.cell? ⟨w3.heap.size + 1, 0, none⟩ = some (.int .i64 kp) := keepC k0_15 HBc.out
  have Lk0_16 : w3.heap.size + 1 < w16.heap.size := World.block_lt_of_cell? _ _ k0_16
  have k1_16 : w16.cell? ⟨w3.heap.size + 1, 1, none⟩ = some (.int .i64 ku) := keepC k1_15 HBc.out
  have x0_16 : w16.cell? ⟨w4.heap.size, 0, none⟩ = some (.bool xu) := keepC x0_15 HBc.out
  have Lx0_16 : w4.heap.size < w16.heap.size := World.block_lt_of_cell? _ _ x0_16
  have x1_16 : w16.cell? ⟨w4.heap.size, 1, none⟩ = some (.int .i64 xn) := keepC x1_15 HBc.out
  have x2_16 : w16.cell? ⟨w4.heap.size, 2, none⟩ = some (.int .i64 xt) := keepC x2_15 HBc.out
  have x3_16 : w16.cell? ⟨w4.heap.size, 3, none⟩ = some (.int .i64 xm) := keepC x3_15 HBc.out
  have x4_16 : w16.cell? ⟨w4.heap.size, 4, none⟩ = some (.int .i64 xp) := keepC x4_15 HBc.out
  have x5_16 : w16.cell? ⟨w4.heap.size, 5, none⟩ = some (.slice ka nX kc) := keepC x5_15 HBc.out
  have x6_16 : w16.cell? ⟨w4.heap.size, 6, none⟩ = some (.int .i64 xh) := keepC x6_15 HBc.out
  have x7_16 : w16.cell? ⟨w4.heap.size, 7, none⟩ = some (.bool xc) := keepC x7_15 HBc.out
  have bm_16 : w16.cell? ⟨w5.heap.size, 0, none⟩ = some (.slice aB nB cB) := keepC bm_15 HBc.out
  have Lbm_16 : w5.heap.size < w16.heap.size := World.block_lt_of_cell? _ _ bm_16
  have Am_16 : w16.cell? ⟨w6.heap.size, 0, none⟩ = some (.slice aT2 nT cT2) := keepC Am_15 HBc.out
  have LAm_16 : w6.heap.size < w16.heap.size := World.block_lt_of_cell? _ _ Am_16
  have K0_16 : w16.cell? ⟨w6.heap.size + 1, 0, none⟩ = some (.int .i64 kp) := keepC K0_15 HBc.out
  have LK0_16 : w6.heap.size + 1 < w16.heap.size := World.block_lt_of_cell? _ _ K0_16
  have K1_16 : w16.cell? ⟨w6.heap.size + 1, 1, none⟩ = some (.int .i64 ku) := keepC K1_15 HBc.out
  have Bm_16 : w16.cell? ⟨w7.heap.size, 0, none⟩ = some (.slice aB2 nB cB2) := keepC Bm_15 HBc.out
  have LBm_16 : w7.heap.size < w16.heap.size := World.block_lt_of_cell? _ _ Bm_16
  have HSn_16 : Hid (NdsAt w16 a S) := HSn_15.out.below HBc.out
  have HAn_16 : Hid (NdsAt w16 aT T) := HAn_15.out.below HBc.out
  have HXn_16 : Hid (IntsAt w16 ka xks) := HXn_15.out.below HBc.out
  have HBn_16 : Hid (NdsAt w16 aB T2) := HBn_15.out.below HBc.out
  have HA2n_16 : Hid (NdsAt w16 aT2 T) := HA2n_15.out.below HBc.out
  have HB2n_16 : Hid (NdsAt w16 aB2 T2) := HB2n_15.out.below HBc.out
  have HB_16 : Hid (Below w.heap.size w w16) := HB_15.out.trans (HBc.out.mono HB_15.out.size)
  clear s_15 h0_15 h1_15 t_15 own_15 nw_15 am_15 k0_15 k1_15 x0_15 x1_15 x2_15 x3_15 x4_15 x5_15 x6_15 x7_15 bm_15 Am_15 K0_15 K1_15 Bm_15 HSn_15 HUn_15 HOn_15 HNn_15 HAn_15 HXn_15 HBn_15 HA2n_15 HB2n_15 HB_15
  clear HBc NB1 NB2 HBP D17 HNN
  go_upto_if 129 with fail
  go_cut [26] (fun s26 wx => s26 = .int .i64 Ef ∧ Hid (Below w16.heap.size w16 wx))
  case first =>
    by_cases hE0 : E0 = 0
    · have e5 : Ef = Eh := by rw [FE.out, if_pos hE0]
      subst hE0
      subst e5
      go_wp2_with (go_at_call 22; refine (D13.out _ HSn_16.out).mono ?_; rintro e wy ⟨rfl, hb⟩; have HBy : Hid _ := hb; clear hb)
      go_meet
      case rel => exact ⟨rfl, HBy⟩
    · have hz : (E0 == 0) = false := by simpa using hE0
      have hz' : decide (E0 = 0) = false := decide_eq_false hE0
      have e5 : Ef = E0 := by rw [FE.out, if_neg hE0]
      subst e5
      go_wp2_with fail
      go_meet
      case rel => exact ⟨rfl, (Below.refl _ _ : Below w16.heap.size w16 w16)⟩
  case rest =>
  obtain ⟨rfl, HBc⟩ := hcut
  obtain ⟨w17, rfl⟩ : ∃ W, W = wc := ⟨_, rfl⟩
  have s_17 : w17.cell? ⟨w.heap.size, 0, none⟩ = some (.slice a n c) := keepC s_16 HBc.out
  have Ls_17 : w.heap.size < w17.heap.size := World.block_lt_of_cell? _ _ s_17
  have h0_17 : w17.cell? ⟨w.heap.size + 1, 0, none⟩ = some (.int .i64 p) := keepC h0_16 HBc.out
  have Lh0_17 : w.heap.size + 1 < w17.heap.size := World.block_lt_of_cell? _ _ h0_17
  have h1_17 : w17.cell? ⟨w.heap.size + 1, 1, none⟩ = some (.int .i64 u) := keepC h1_16 HBc.out
  have am_17 : w17.cell? ⟨w3.heap.size, 0, none⟩ = some (.slice aT nT cT) := keepC am_16 HBc.out
  have Lam_17 : w3.heap.size < w17.heap.size := World.block_lt_of_cell? _ _ am_17
  have k0_17 : w17.cell? ⟨w3.heap.size + 1, 0, none⟩ = some (.int .i64 kp) := keepC k0_16 HBc.out
  have Lk0_17 : w3.heap.size + 1 < w17.heap.size := World.block_lt_of_cell? _ _ k0_17
  have k1_17 : w17.cell? ⟨w3.heap.size + 1, 1, none⟩ = some (.int .i64 ku) := keepC k1_16 HBc.out
  have x0_17 : w17.cell? ⟨w4.heap.size, 0, none⟩ = some (.bool xu) := keepC x0_16 HBc.out
  have Lx0_17 : w4.heap.size < w17.heap.size := World.block_lt_of_cell? _ _ x0_17
  have x1_17 : w17.cell? ⟨w4.heap.size, 1, none⟩ = some (.int .i64 xn) := keepC x1_16 HBc.out
  have x2_17 : w17.cell? ⟨w4.heap.size, 2, none⟩ = some (.int .i64 xt) := keepC x2_16 HBc.out
  have x3_17 : w17.cell? ⟨w4.heap.size, 3, none⟩ = some (.int .i64 xm) := keepC x3_16 HBc.out
  have x4_17 : w17.cell? ⟨w4.heap.size, 4, none⟩ = some (.int .i64 xp) := keepC x4_16 HBc.out
  have x5_17 : w17.cell? ⟨w4.heap.size, 5, none⟩ = some (.slice ka nX kc) := keepC x5_16 HBc.out
  have x6_17 : w17.cell? ⟨w4.heap.size, 6, none⟩ = some (.int .i64 xh) := keepC x6_16 HBc.out
  have x7_17 : w17.cell? ⟨w4.heap.size, 7, none⟩ = some (.bool xc) := keepC x7_16 HBc.out
  have bm_17 : w17.cell? ⟨w5.heap.size, 0, none⟩ = some (.slice aB nB cB) := keepC bm_16 HBc.out
  have Lbm_17 : w5.heap.size < w17.heap.size := World.block_lt_of_cell? _ _ bm_17
  have Am_17 : w17.cell? ⟨w6.heap.size, 0, none⟩ = some (.slice aT2 nT cT2) := keepC Am_16 HBc.out
  have LAm_17 : w6.heap.size < w17.heap.size := World.block_lt_of_cell? _ _ Am_17
  have K0_17 : w17.cell? ⟨w6.heap.size + 1, 0, none⟩ = some (.int .i64 kp) := keepC K0_16 HBc.out
  have LK0_17 : w6.heap.size + 1 < w17.heap.size := World.block_lt_of_cell? _ _ K0_17
  have K1_17 : w17.cell? ⟨w6.heap.size + 1, 1, none⟩ = some (.int .i64 ku) := keepC K1_16 HBc.out
  have Bm_17 : w17.cell? ⟨w7.heap.size, 0, none⟩ = some (.slice aB2 nB cB2) := keepC Bm_16 HBc.out
  have LBm_17 : w7.heap.size < w17.heap.size := World.block_lt_of_cell? _ _ Bm_17
  have HSn_17 : Hid (NdsAt w17 a S) := HSn_16.out.below HBc.out
  have HAn_17 : Hid (NdsAt w17 aT T) := HAn_16.out.below HBc.out
  have HXn_17 : Hid (IntsAt w17 ka xks) := HXn_16.out.below HBc.out
  have HBn_17 : Hid (NdsAt w17 aB T2) := HBn_16.out.below HBc.out
  have HA2n_17 : Hid (NdsAt w17 aT2 T) := HA2n_16.out.below HBc.out
  have HB2n_17 : Hid (NdsAt w17 aB2 T2) := HB2n_16.out.below HBc.out
  have HB_17 : Hid (Below w.heap.size w w17) := HB_16.out.trans (HBc.out.mono HB_16.out.size)
  clear s_16 h0_16 h1_16 am_16 k0_16 k1_16 x0_16 x1_16 x2_16 x3_16 x4_16 x5_16 x6_16 x7_16 bm_16 Am_16 K0_16 K1_16 Bm_16 HSn_16 HAn_16 HXn_16 HBn_16 HA2n_16 HB2n_16 HB_16
  clear HBc FE D13
  go_upto_if 134 with fail
  go_cut [] (fun wx => ∃ (ka' : Option Addr) (kc' : Nat), wx.cell? ⟨w17.heap.size, 0, none⟩ = some (.bool xu) ∧ wx.cell? ⟨w17.heap.size, 1, none⟩ = some (.int .i64 xn) ∧ wx.cell? ⟨w17.heap.size, 2, none⟩ = some (.int .i64 xt) ∧ wx.cell? ⟨w17.heap.size, 3, none⟩ = some (.int .i64 xm) ∧ wx.cell? ⟨w17.heap.size, 4, none⟩ = some (.int .i64 xp) ∧ wx.cell? ⟨w17.heap.size, 5, none⟩ = some (.slice ka' nX kc') ∧ wx.cell? ⟨w17.heap.size, 6, none⟩ = some (.int .i64 xh) ∧ wx.cell? ⟨w17.heap.size, 7, none⟩ = some (.bool xc) ∧ Hid (IntsAt wx ka' xks) ∧ Hid (Below w17.heap.size w17 wx))
  case first =>
    by_cases hEf : Ef = 0
    · obtain ⟨k, hp, hk, hxk⟩ := HX0.out hEf
      obtain ⟨nb, no, ea, c0, c1, c2, c3, c4, ⟨ka2, kc2, c5, hin⟩, c6, c7⟩ := HSn_17.out k (by rw [HN.out]; exact hk)
      rw [← hxk] at c0 c1 c2 c3 c4 c5 c6 c7 hin
      dsimp only at c0 c1 c2 c3 c4 c5 c6 c7 hin
      rw [HNX.out] at c5
      have HI2 : Hid (IntsAt w17 ka2 xks) := hin
      have hkn : (k : Int) < (n : Int) := by omega
      have hnb := World.block_lt_of_cell? _ _ c0
      clear hxk hin HX0 HX1 hk
      subst hEf
      subst hp
      subst ea
      go_wp2_with fail
      go_meet
      case rel => exact ⟨ka2, kc2, alloc_cell _ _ _ 0 rfl, alloc_cell _ _ _ 1 rfl, alloc_cell _ _ _ 2 rfl, alloc_cell _ _ _ 3 rfl, alloc_cell _ _ _ 4 rfl, alloc_cell _ _ _ 5 rfl, alloc_cell _ _ _ 6 rfl, alloc_cell _ _ _ 7 rfl, (HI2.out.below (one_belowS _ _)), one_belowS _ _⟩
    · have hz : (Ef == 0) = false := by simpa using hEf
      have hz' : decide (Ef = 0) = false := decide_eq_false hEf
      obtain ⟨rfl, rfl, rfl, rfl, rfl, rfl, rfl, rfl⟩ := nd_zero (HX1.out hEf)
      have e6 : nX = 0 := HNX.out.symm
      subst e6
      go_wp2_with fail
      go_meet
      case rel => exact ⟨none, 0, alloc_cell _ _ _ 0 rfl, alloc_cell _ _ _ 1 rfl, alloc_cell _ _ _ 2 rfl, alloc_cell _ _ _ 3 rfl, alloc_cell _ _ _ 4 rfl, alloc_cell _ _ _ 5 rfl, alloc_cell _ _ _ 6 rfl, alloc_cell _ _ _ 7 rfl, (fun i hi => absurd hi (Nat.not_lt_zero _) : IntsAt _ none []), one_belowS _ _⟩
  case rest =>
  obtain ⟨ka', kc', y0, y1, y2, y3, y4, y5, y6, y7, HI', HBc⟩ := hcut
  obtain ⟨w18, rfl⟩ : ∃ W, W = wc := ⟨_, rfl⟩
  have s_18 : w18.cell? ⟨w.heap.size, 0, none⟩ = some (.slice a n c) := keepC s_17 HBc.out
  have Ls_18 : w.heap.size < w18.heap.size := World.block_lt_of_cell? _ _ s_18
  have h0_18 : w18.cell? ⟨w.heap.size + 1, 0, none⟩ = some (.int .i64 p) := keepC h0_17 HBc.out
  have Lh0_18 : w.heap.size + 1 < w18.heap.size := World.block_lt_of_cell? _ _ h0_18
  have h1_18 : w18.cell? ⟨w.heap.size + 1, 1, none⟩ = some (.int .i64 u) := keepC h1_17 HBc.out
  have am_18 : w18.cell? ⟨w3.heap.size, 0, none⟩ = some (.slice aT nT cT) := keepC am_17 HBc.out
  have Lam_18 : w3.heap.size < w18.heap.size := World.block_lt_of_cell? _ _ am_18
  have k0_18 : w18.cell? ⟨w3.heap.size + 1, 0, none⟩ = some (.int .i64 kp) := keepC k0_17 HBc.out
  have Lk0_18 : w3.heap.size + 1 < w18.heap.size := World.block_lt_of_cell? _ _ k0_18
  have k1_18 : w18.cell? ⟨w3.heap.size + 1, 1, none⟩ = some (.int .i64 ku) := keepC k1_17 HBc.out
  have x0_18 : w18.cell? ⟨w4.heap.size, 0, none⟩ = some (.bool xu) := keepC x0_17 HBc.out
  have Lx0_18 : w4.heap.size < w18.heap.size := World.block_lt_of_cell? _ _ x0_18
  have x1_18 : w18.cell? ⟨w4.heap.size, 1, none⟩ = some (.int .i64 xn) := keepC x1_17 HBc.out
  have x2_18 : w18.cell? ⟨w4.heap.size, 2, none⟩ = some (.int .i64 xt) := keepC x2_17 HBc.out
  have x3_18 : w18.cell? ⟨w4.heap.size, 3, none⟩ = some (.int .i64 xm) := keepC x3_17 HBc.out
  have x4_18 : w18.cell? ⟨w4.heap.size, 4, none⟩ = some (.int .i64 xp) := keepC x4_17 HBc.out
  have x5_18 : w18.cell? ⟨w4.heap.size, 5, none⟩ = some (.slice ka nX kc) := keepC x5_17 HBc.out
  have x6_18 : w18.cell? ⟨w4.heap.size, 6, none⟩ = some (.int .i64 xh) := keepC x6_17 HBc.out
  have x7_18 : w18.cell? ⟨w4.heap.size, 7, none⟩ = some (.bool xc) := keepC x7_17 HBc.out
  have bm_18 : w18.cell? ⟨w5.heap.size, 0, none⟩ = some (.slice aB nB cB) := keepC bm_17 HBc.out
  have Lbm_18 : w5.heap.size < w18.heap.size := World.block_lt_of_cell? _ _ bm_18
  have Am_18 : w18.cell? ⟨w6.heap.size, 0, none⟩ = some (.slice aT2 nT cT2) := keepC Am_17 HBc.out
  have LAm_18 : w6.heap.size < w18.heap.size := World.block_lt_of_cell? _ _ Am_18
  have K0_18 : w18.cell? ⟨w6.heap.size + 1, 0, none⟩ = some (.int .i64 kp) := keepC K0_17 HBc.out
  have LK0_18 : w6.heap.size + 1 < w18.heap.size := World.block_lt_of_cell? _ _ K0_18
  have K1_18 : w18.cell? ⟨w6.heap.size + 1, 1, none⟩ = some (.int .i64 ku) := keepC K1_17 HBc.out
  have Bm_18 : w18.cell? ⟨w7.heap.size, 0, none⟩ = some (.slice aB2 nB cB2) := keepC Bm_17 HBc.out
  have LBm_18 : w7.heap.size < w18.heap.size := World.block_lt_of_cell? _ _ Bm_18
  have HSn_18 : Hid (NdsAt w18 a S) := HSn_17.out.below HBc.out
  have HAn_18 : Hid (NdsAt w18 aT T) := HAn_17.out.below HBc.out
  have HXn_18 : Hid (IntsAt w18 ka xks) := HXn_17.out.below HBc.out
  have HBn_18 : Hid (NdsAt w18 aB T2) := HBn_17.out.below HBc.out
  have HA2n_18 : Hid (NdsAt w18 aT2 T) := HA2n_17.out.below HBc.out
  have HB2n_18 : Hid (NdsAt w18 aB2 T2) := HB2n_17.out.below HBc.out
  have HB_18 : Hid (Below w.heap.size w w18) := HB_17.out.trans (HBc.out.mono HB_17.out.size)
  have Ly := World.block_lt_of_cell? _ _ y0
  clear s_17 h0_17 h1_17 am_17 k0_17 k1_17 x0_17 x1_17 x2_17 x3_17 x4_17 x5_17 x6_17 x7_17 bm_17 Am_17 K0_17 K1_17 Bm_17 HSn_17 HAn_17 HXn_17 HBn_17 HA2n_17 HB2n_17 HB_17
  clear HBc HX0 HX1
  have PR : Hid _ := nds_pair (u := xu) (c := xc) (n := xn) (t := xt) (m := xm) (p := xp) (h := xh) (kc := kc) (kc' := kc') HNX.out HXn_18.out HI'.out
  have D18 : Hid _ := rSame_any _ _ 1 1 [⟨xu, xn, xt, xm, xp, xks, xh, xc⟩] [⟨xu, xn, xt, xm, xp, xks, xh, xc⟩] _ (by simp) (big_one (by show xks.length ≤ _; rw [HNX.out]; exact hxl)) PR.out.1 PR.out.2
  clear PR
  go_wp2_with fail
  refine Calls.mono D18.out ?_
  rintro e w19 ⟨r4, rfl, hb, hr⟩
  have hr4 : r4 = true := (by first | exact hr.2 rfl | exact hr.2 trivial)
  subst hr4
  have hbb : Below w18.heap.size w18 w19 := (two_belowS _ _ _).trans (hb.mono (by first | (simp; done) | (simp; omega)))
  have am_19 : w19.cell? ⟨w3.heap.size, 0, none⟩ = some (.slice aT nT cT) := keepC am_18 hbb
  have Lam_19 : w3.heap.size < w19.heap.size := World.block_lt_of_cell? _ _ am_19
  have k0_19 : w19.cell? ⟨w3.heap.size + 1, 0, none⟩ = some (.int .i64 kp) := keepC k0_18 hbb
  have Lk0_19 : w3.heap.size + 1 < w19.heap.size := World.block_lt_of_cell? _ _ k0_19
  have k1_19 : w19.cell? ⟨w3.heap.size + 1, 1, none⟩ = some (.int .i64 ku) := keepC k1_18 hbb
  have bm_19 : w19.cell? ⟨w5.heap.size, 0, none⟩ = some (.slice aB nB cB) := keepC bm_18 hbb
  have Lbm_19 : w5.heap.size < w19.heap.size := World.block_lt_of_cell? _ _ bm_19
  have Am_19 : w19.cell? ⟨w6.heap.size, 0, none⟩ = some (.slice aT2 nT cT2) := keepC Am_18 hbb
  have LAm_19 : w6.heap.size < w19.heap.size := World.block_lt_of_cell? _ _ Am_19
  have K0_19 : w19.cell? ⟨w6.heap.size + 1, 0, none⟩ = some (.int .i64 kp) := keepC K0_18 hbb
  have LK0_19 : w6.heap.size + 1 < w19.heap.size := World.block_lt_of_cell? _ _ K0_19
  have K1_19 : w19.cell? ⟨w6.heap.size + 1, 1, none⟩ = some (.int .i64 ku) := keepC K1_18 hbb
  have Bm_19 : w19.cell? ⟨w7.heap.size, 0, none⟩ = some (.slice aB2 nB cB2) := keepC Bm_18 hbb
  have LBm_19 : w7.heap.size < w19.heap.size := World.block_lt_of_cell? _ _ Bm_19
  have HAn_19 : Hid (NdsAt w19 aT T) := HAn_18.out.below hbb
  have HBn_19 : Hid (NdsAt w19 aB T2) := HBn_18.out.below hbb
  have HA2n_19 : Hid (NdsAt w19 aT2 T) := HA2n_18.out.below hbb
  have HB2n_19 : Hid (NdsAt w19 aB2 T2) := HB2n_18.out.below hbb
  have HB_19 : Hid (Below w.heap.size w w19) := HB_18.out.trans (hbb.mono HB_18.out.size)
  clear hb hbb hr
  clear s_18 h0_18 h1_18 am_18 k0_18 k1_18 x0_18 x1_18 x2_18 x3_18 x4_18 x5_18 x6_18 x7_18 bm_18 Am_18 K0_18 K1_18 Bm_18 y0 y1 y2 y3 y4 y5 y6 y7 HSn_18 HAn_18 HXn_18 HBn_18 HA2n_18 HB2n_18
  clear D18 HI'
  go_wp2_with fail
  refine Calls.mono (D15.out aT cT aT2 cT2 _ HAn_19.out HA2n_19.out) ?_
  rintro e w20 ⟨r5, rfl, hb, hr⟩
  have hr5 : r5 = true := (by first | exact hr.2 rfl | exact hr.2 trivial)
  subst hr5
  have bm_20 : w20.cell? ⟨w5.heap.size, 0, none⟩ = some (.slice aB nB cB) := keepC bm_19 hb
  have Lbm_20 : w5.heap.size < w20.heap.size := World.block_lt_of_cell? _ _ bm_20
  have Bm_20 : w20.cell? ⟨w7.heap.size, 0, none⟩ = some (.slice aB2 nB cB2) := keepC Bm_19 hb
  have LBm_20 : w7.heap.size < w20.heap.size := World.block_lt_of_cell? _ _ Bm_20
  have HBn_20 : Hid (NdsAt w20 aB T2) := HBn_19.out.below hb
  have HB2n_20 : Hid (NdsAt w20 aB2 T2) := HB2n_19.out.below hb
  have HB_20 : Hid (Below w.heap.size w w20) := HB_19.out.trans (hb.mono HB_19.out.size)
  clear hb hr
  go_wp2_with fail
  refine Calls.mono (D16.out aB cB aB2 cB2 _ HBn_20.out HB2n_20.out) ?_
  rintro e w21 ⟨r6, rfl, hb, hr⟩
  have hr6 : r6 = true := (by first | exact hr.2 rfl | exact hr.2 trivial)
  subst hr6
  have HBz : Hid (Below w.heap.size w w21) := HB_20.out.trans (hb.mono HB_20.out.size)
  clear hb hr
  go_wp2_with fail
  go_ret
  exact ⟨rfl, HBz.out⟩
end Go.Proofs.Ytjlapfgghljidaa
