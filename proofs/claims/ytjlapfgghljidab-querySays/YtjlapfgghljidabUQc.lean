/-
  The reference's IsSo.
-/
import Derived.Test.YtjlapfgghljidabUQbRv
import Derived.Test.YtjlapfgghljidabURg
import Derived.Test.YtjlapfgghljidabURzRaRbRhRdRe
import Derived.Deep.DeepCutAuto
namespace Go.Proofs.Ytjlapfgghljidab
open Go.RowKit

theorem parent_is {S : List Nd} (wf : WF S) {y : Nat} (hy : y < S.length) : (nd S y).p = -1 ∨ ∃ p0 : Nat, (nd S y).p = p0 ∧ p0 < S.length := by
  by_cases e : (nd S y).p = -1
  · exact Or.inl e
  · obtain ⟨p0, e0, g1, _⟩ := wf.parent_place hy e
    exact Or.inr ⟨p0, e0, g1⟩

theorem pp_none (S : List Nd) : ∀ f, ppF S f (-1) = [] := fun f => by
  cases f with
  | zero => rfl
  | succ f =>
    rw [ppF, if_neg]
    intro h
    have h2 : 0 ≤ (-1 : Int) ∧ (-1 : Int) ≤ (S.length : Int) - 1 := of_decide_eq_true h
    omega

theorem mem_pp {S : List Nd} : ∀ {f : Nat} {x y : Int}, y ∈ ppF S f x → ∃ k : Nat, y = k ∧ k < S.length
  | 0, _, _, h => by simp [ppF] at h
  | f + 1, x, y, h => by
    rw [ppF] at h
    split at h
    · next hp =>
      have h2 : 0 ≤ x ∧ x ≤ (S.length : Int) - 1 := of_decide_eq_true hp
      rcases List.mem_cons.1 h with rfl | h
      · exact ⟨y.toNat, by omega, by omega⟩
      · exact mem_pp h
    · cases h

theorem bool_of (u v : Int) : ((u == v) = true ∧ decide (u = v) = true) ∨ ((u == v) = false ∧ decide (u = v) = false) := by
  by_cases h : u = v
  · exact Or.inl ⟨by simp [h], decide_eq_true h⟩
  · exact Or.inr ⟨beq_eq_false_iff_ne.2 h, decide_eq_false h⟩

theorem row_next {NF G : Nat → Bool} {j : Nat} {v : Bool} (hv : NF j = v) (t : Nat) : (if t = j then Value.bool v else .bool (if t < j then NF t else G t)) = .bool (if t < j + 1 then NF t else G t) := by
  by_cases e : t = j
  · subst e
    rw [if_pos rfl, if_pos (by omega), hv]
  · rw [if_neg e]
    by_cases h : t < j
    · rw [if_pos h, if_pos (by omega)]
    · rw [if_neg h, if_neg (by omega)]

set_option maxRecDepth 100000 in
set_option maxHeartbeats 8000000 in
theorem rIsSo_any (a : Option Addr) (c : Nat) (S : List Nd) (k : Nat) (qa : Option Addr) (qc : Nat) (q : List Tst) (w : World) (wf : WF S) (hk : k < S.length) (hS : NdsAt w a S) (hq1 : 1 ≤ q.length) (hq6 : q.length ≤ 6) (hQ : TestsAt w qa q) :
    Calls Try.prog 47 #[.agg #[.slice a S.length c], .int .i64 (k : Int), .slice qa q.length qc] w fun e w' => e = .returned (.bool (isSoF S k q)) ∧ Below w.heap.size w w' := by
  obtain ⟨i0, hi0, hz0, hz1, hz2⟩ := info_parts info3
  have hN := wf.small
  have RS : Hid ((dpF S q (ppF S (S.length + 1) k).reverse).1 (q.length - 1) = isSoF S k q) := dp_isSo wf hk (by omega)
  have HS : Hid (NdsAt w a S) := hS
  have HQ : Hid (TestsAt w qa q) := hQ
  have PS : Hid (∀ f (y : Nat), y < S.length → ppF S (f + 1) (y : Int) = (y : Int) :: ppF S f (nd S y).p) := fun f y hy => by rw [ppF, if_pos (isPl_nat.2 hy), Int.toNat_natCast]
  have PN : Hid (∀ f, ppF S f (-1) = []) := pp_none S
  have PI : Hid (∀ y : Nat, y < S.length → (nd S y).p = -1 ∨ ∃ p0 : Nat, (nd S y).p = p0 ∧ p0 < S.length) := fun y hy => parent_is wf hy
  have SH : Hid (∀ j z, PUp S j k z → j < S.length + 1) := fun j z h => wf.pup_short hk h
  have LM : Hid (∀ y ∈ (ppF S (S.length + 1) k).reverse, ∃ x : Nat, y = x ∧ x < S.length) := fun y hy => mem_pp (List.mem_reverse.1 hy)
  have LL : (ppF S (S.length + 1) k).reverse.length ≤ 25 := by rw [List.length_reverse]; exact Nat.le_trans (pp_len S _ _) (by omega)
  have DS : Hid (∀ l x, dpF S q (l ++ [x]) = dpStep S q (dpF S q l) x) := dp_snoc S q
  obtain ⟨L, hL⟩ : ∃ L, q.length = L := ⟨_, rfl⟩
  have HL : Hid (q.length = L) := hL
  have hmk := makeBools L (by omega)
  generalize isSoF S k q = RES at *
  obtain ⟨P, hP⟩ : ∃ P, (ppF S (S.length + 1) k).reverse = P := ⟨_, rfl⟩
  rw [hP] at RS LM LL
  have E0 : Hid (P = (ppF S (S.length + 1) k).reverse ++ []) := (by rw [hP]; simp : P = (ppF S (S.length + 1) k).reverse ++ [])
  clear hS hQ wf hP
  obtain ⟨n, hn⟩ : ∃ n, S.length = n := ⟨_, rfl⟩
  have HN : Hid (S.length = n) := hn
  rw [hn] at hN hk PS PI SH LM E0 ⊢
  rw [hL] at hq1 hq6 RS ⊢
  clear hn hL
  go_enter Try.func47, Try.ntmps47
  go_wp2_with fail
  go_loopg [7, 8] (n + 2) (fun g s7 s8 wr => ∃ (i : Nat) (x : Int) (l : List Int), i ≤ n + 1 ∧ n + 1 - i < g ∧ s8 = .int .i64 x ∧ l.length ≤ i ∧ wr.cell? ⟨w.heap.size, 0, none⟩ = some (.slice a n c) ∧ w.heap.size + 1 ≤ wr.heap.size ∧ Hid (Below w.heap.size w wr) ∧ Hid (wr.ownsRow (w.heap.size + 1) 3 1 s7 l.length (l.map (Value.int .i64))) ∧ Hid (P = (ppF S (n + 1 - i) x).reverse ++ l) ∧ Hid (x = -1 ∨ ∃ y : Nat, x = y ∧ y < n ∧ ∀ j z, PUp S j y z → j < n + 1 - i))
  case atStart => exact ⟨0, k, [], by omega, by omega, rfl, by simp, by go_simp, by simp, (Below.refl _ _).alloc (Nat.le_refl _) _, World.ownsRow_nil _ _ _ _, E0, (Or.inr ⟨k, rfl, hk, SH.out⟩ : (k : Int) = -1 ∨ ∃ y : Nat, (k : Int) = y ∧ y < n ∧ ∀ j z, PUp S j y z → j < n + 1 - 0)⟩
  case round =>
    clear E0 SH
    obtain ⟨i, x, l, hi, hg, rfl, hli, cs, hsz, HB, HO, HE, HX⟩ := hrel
    have hcs := World.block_lt_of_cell? _ _ cs
    obtain ⟨pa, pc, e7, _⟩ := own_slice HO.out
    subst e7
    obtain ⟨ln, hln⟩ : ∃ y, l.length = y := ⟨_, rfl⟩
    have HLN : Hid (l.length = ln) := hln
    rw [hln] at HO hli ⊢
    rcases HX.out with hx | ⟨y, hx, hyn, hup⟩
    · subst hx
      have hPl : P = l := by
        have := HE.out
        rw [PN.out] at this
        simpa using this
      have hlP : P.length = ln := by rw [hPl]; exact hln
      have HOP : Hid (wr.ownsRow (w.heap.size + 1) 3 1 (.slice pa ln pc) P.length (P.map (Value.int .i64))) := (by rw [hPl, hln]; exact HO.out : wr.ownsRow (w.heap.size + 1) 3 1 (.slice pa ln pc) P.length (P.map (Value.int .i64)))
      obtain ⟨pa', pc', e8, hints, _⟩ := own_slice HOP.out
      cases e8
      have HI : Hid (IntsAt wr pa P) := hints
      clear HX HE hPl hlP hln HO hints HLN hli PN PS PI
      obtain ⟨lp, hlp⟩ : ∃ lp, P.length = lp := ⟨_, rfl⟩
      have HLP : Hid (P.length = lp) := hlp
      rw [hlp] at LL ⊢
      clear hlp
      go_wp2_with fail
      obtain ⟨V, rfl⟩ : ∃ V, V = wr := ⟨_, rfl⟩
      have D0 : Hid (dpF S q (P.take 0) = (fun _ => false, fun _ => false)) := (rfl : dpF S q (P.take 0) = _)
      go_loopg [10, 40] lp (fun g s10 s40 wr => ∃ (i gl : Nat), i ≤ lp ∧ lp - i ≤ g ∧ s40 = .int .i64 i ∧ s10 = .slice (some ⟨gl, 0, none⟩) L L ∧ gl ≠ V.heap.size ∧ V.heap.size ≤ gl ∧ Hid (Below V.heap.size V wr) ∧ Hid (wr.rowIs V.heap.size 4 L (fun j => .bool ((dpF S q (P.take i)).2 j))) ∧ Hid (wr.rowIs gl 4 L (fun j => .bool ((dpF S q (P.take i)).1 j))))
      case atStart =>
        refine ⟨0, V.heap.size + 1, by omega, by omega, rfl, rfl, by omega, by omega, two_below _ _ _, ?_, ?_⟩
        · have h0 := (World.rowIs_made V (.bool false) L 4).alloc (.cells (madeCells #[.bool false] L) 4)
          show World.rowIs _ _ _ _ _
          rw [D0.out]
          exact h0
        · have h0 := World.rowIs_made (V.alloc (.cells (madeCells #[.bool false] L) 4)) (.bool false) L 4
          show World.rowIs _ _ _ _ _
          rw [D0.out]
          simpa using h0
      case round =>
        clear D0
        obtain ⟨i2, gl, hi2, hg2, rfl, rfl, hgn, hgV, HB2, RR, RLs⟩ := hrel
        have hgl := RLs.out.lt
        have hgr := RR.out.lt
        have HBw : Hid (Below w.heap.size w wr) := HB.out.trans (HB2.out.mono HB.out.size)
        have cs2 := keepC cs HB2.out
        have hcs2 := World.block_lt_of_cell? _ _ cs2
        by_cases hlt : i2 < lp
        · obtain ⟨y, hy, hyn⟩ := LM.out (P.getD i2 0) (by rw [getD_elem P 0 (by rw [HLP.out]; exact hlt)]; exact List.getElem_mem _)
          obtain ⟨pb, po, ep, hpc⟩ := (HI.out.below HB2.out) i2 (by rw [HLP.out]; exact hlt)
          subst ep
          rw [hy] at hpc
          obtain ⟨nb, no, ea, c0, c1, c2, c3, c4, ⟨ka, kc, c5, _⟩, c6, c7⟩ := (HS.out.below HBw.out) y (by rw [HN.out]; exact hyn)
          subst ea
          have hy2 : (y : Int) < (n : Int) := by omega
          have hlt2 : (i2 : Int) < (lp : Int) := by omega
          have DN : Hid (dpF S q (P.take (i2 + 1)) = dpStep S q (dpF S q (P.take i2)) (y : Int)) := by
            show dpF S q (P.take (i2 + 1)) = _
            rw [List.take_succ_eq_append_getElem (by rw [HLP.out]; exact hlt), ← getD_elem P 0 (by rw [HLP.out]; exact hlt), hy, DS.out]
          have NW : Hid (∀ j, nowF S q (y : Int) (dpF S q (P.take i2)).1 (dpF S q (P.take i2)).2 j = (testB (tst q j).t (tst q j).m (nd S y) && (if j = 0 then true else if (tst q j).near then (dpF S q (P.take i2)).1 (j - 1) else (dpF S q (P.take i2)).2 (j - 1)))) := fun j => by unfold nowF; rw [Int.toNat_natCast]
          obtain ⟨LA, hLA⟩ : ∃ f, (dpF S q (P.take i2)).1 = f := ⟨_, rfl⟩
          obtain ⟨RA, hRA⟩ : ∃ f, (dpF S q (P.take i2)).2 = f := ⟨_, rfl⟩
          have DN2 : Hid (dpF S q (P.take (i2 + 1)) = (nowF S q (y : Int) LA RA, fun j => RA j || nowF S q (y : Int) LA RA j)) := by
            show dpF S q (P.take (i2 + 1)) = _
            rw [DN.out]
            unfold dpStep
            rw [hLA, hRA]
          rw [hLA, hRA] at NW
          rw [hLA] at RLs
          rw [hRA] at RR
          obtain ⟨NF, hNF⟩ : ∃ f, nowF S q (y : Int) LA RA = f := ⟨_, rfl⟩
          rw [hNF] at NW DN2
          clear hLA hRA hNF DN hy
          obtain ⟨LK, hLK⟩ : ∃ LK, (nd S y).ks.length = LK := ⟨_, rfl⟩
          rw [hLK] at c5
          obtain ⟨x, hx⟩ : ∃ x, nd S y = x := ⟨_, rfl⟩
          rw [hx] at c0 c1 c2 c3 c4 c6 c7 NW
          clear hx hLK
          obtain ⟨xu, xn, xt, xm, xp, xks, xh, xc⟩ := x
          dsimp only at c0 c1 c2 c3 c4 c6 c7
          go_wp2_with fail
          obtain ⟨W2, hW2⟩ : ∃ W2, W2 = (wr.alloc (.cells #[.bool xu, .int .i64 xn, .int .i64 xt, .int .i64 xm, .int .i64 xp, .slice ka LK kc, .int .i64 xh, .bool xc] 35)).alloc (.cells (madeCells #[.bool false] L) 4) := ⟨_, rfl⟩
          rw [← hW2]
          have HBW2 : Hid (Below wr.heap.size wr W2) := by rw [hW2]; exact two_below _ _ _
          have hsW2 : wr.heap.size + 2 = W2.heap.size := by rw [hW2]; simp
          have d2 : W2.cell? ⟨wr.heap.size, 2, none⟩ = some (.int .i64 xt) := by rw [hW2]; exact alloc_cell1 _ _ _ 2 _ rfl
          have d3 : W2.cell? ⟨wr.heap.size, 3, none⟩ = some (.int .i64 xm) := by rw [hW2]; exact alloc_cell1 _ _ _ 3 _ rfl
          have RN : Hid (W2.rowIs (wr.heap.size + 1) 4 L (fun t => .bool (if t < 0 then NF t else false))) := by
            have h0 := World.rowIs_made (wr.alloc (.cells #[.bool xu, .int .i64 xn, .int .i64 xt, .int .i64 xm, .int .i64 xp, .slice ka LK kc, .int .i64 xh, .bool xc] 35)) (.bool false) L 4
            show World.rowIs _ _ _ _ _
            rw [hW2]
            exact (by simpa using h0)
          have HBV2 : Hid (Below V.heap.size V W2) := HB2.out.trans (HBW2.out.mono HB2.out.size)
          have HRR2 : Hid (W2.rowIs V.heap.size 4 L (fun j => .bool (RA j))) := RR.out.of_block (HBW2.out.block _ hgr)
          have HRL2 : Hid (W2.rowIs gl 4 L (fun j => .bool (LA j))) := RLs.out.of_block (HBW2.out.block _ hgl)
          have hVs := HB2.out.size
          clear hW2 c0 c1 c2 c3 c4 c5 c6 c7 hpc RR RLs cs2 hcs2
          obtain ⟨U, rfl⟩ : ∃ U, U = wr := ⟨_, rfl⟩
          go_loopg [54] L (fun g s54 w3 => ∃ j : Nat, j ≤ L ∧ L - j ≤ g ∧ s54 = .int .i64 j ∧ Hid (Off (fun b => b = U.heap.size + 1) W2 w3) ∧ Hid (w3.rowIs (U.heap.size + 1) 4 L (fun t => .bool (if t < j then NF t else false))))
          case atStart => exact ⟨0, by omega, by omega, rfl, Off.refl _ _, RN⟩
          case round =>
            clear RN
            obtain ⟨j, hj, hgj, rfl, O3, R3⟩ := hrel
            have hz3 := O3.out.size
            have HB3 : Hid (Below V.heap.size V wr) := HBV2.out.trans (O3.out.below HBV2.out.size (fun k hk => by have : k = U.heap.size + 1 := hk; omega))
            have HBw3 : Hid (Below w.heap.size w wr) := HB.out.trans (HB3.out.mono HB.out.size)
            have RR3 : Hid (wr.rowIs V.heap.size 4 L (fun j => .bool (RA j))) := HRR2.out.of_block (O3.out.block _ (by omega) (by show ¬ V.heap.size = U.heap.size + 1; omega))
            have RL3 : Hid (wr.rowIs gl 4 L (fun j => .bool (LA j))) := HRL2.out.of_block (O3.out.block _ (by omega) (by show ¬ gl = U.heap.size + 1; omega))
            have e2 := (O3.out.cell (p := ⟨U.heap.size, 2, none⟩) (by show U.heap.size < _; omega) (by show ¬ U.heap.size = U.heap.size + 1; omega)).trans d2
            have e3 := (O3.out.cell (p := ⟨U.heap.size, 3, none⟩) (by show U.heap.size < _; omega) (by show ¬ U.heap.size = U.heap.size + 1; omega)).trans d3
            have he2 := World.block_lt_of_cell? _ _ e2
            have hgn3 := R3.out.lt
            by_cases hjl : j < L
            · obtain ⟨qb, qo, eq, t0, t1, t2⟩ := (HQ.out.below HBw3.out) j (by rw [HL.out]; exact hjl)
              subst eq
              have hqb := World.block_lt_of_cell? _ _ t0
              have hjl2 : (j : Int) < (L : Int) := by omega
              have fzn : ∀ o, wr.frozen? ⟨U.heap.size + 1, o, none⟩ = false := fun o => R3.out.frozen o
              have rcn := R3.out.cell hjl
              have NWj : Hid _ := NW.out j
              generalize (tst q j).t = tt at *
              generalize (tst q j).m = tm at *
              generalize (tst q j).near = tn at *
              obtain ⟨tb, htb⟩ : ∃ tb, testB tt tm ⟨xu, xn, xt, xm, xp, xks, xh, xc⟩ = tb := ⟨_, rfl⟩
              have HTB : Hid (((decide (tt = -1000001) || decide (tt = xt)) && (decide (tm = -1000001) || decide (tm = xm))) = tb) := htb
              rw [htb] at NWj
              clear htb
              have hgl3 : gl < wr.heap.size := RL3.out.lt
              have hgr3 : V.heap.size < wr.heap.size := RR3.out.lt
              go_upto_region 16 with fail
              go_cut [17] (fun s17 wx => s17 = .bool tb ∧ wx = wr.alloc (.cells #[.int .i64 tt, .int .i64 tm, .bool tn] 45))
              case first =>
                rcases bool_of tt (-1000001) with ⟨p1, p1'⟩ | ⟨p1, p1'⟩ <;> rcases bool_of tt xt with ⟨p2, p2'⟩ | ⟨p2, p2'⟩ <;> rcases bool_of tm (-1000001) with ⟨p3, p3'⟩ | ⟨p3, p3'⟩ <;> rcases bool_of tm xm with ⟨p4, p4'⟩ | ⟨p4, p4'⟩
                all_goals
                  have ht := HTB.out
                  rw [p1', p2', p3', p4'] at ht
                  subst ht
                  clear p1' p2' p3' p4'
                  go_wp2_with fail
                  go_meet
                  case rel => exact ⟨rfl, rfl⟩
              case rest =>
              obtain ⟨rfl, hwc⟩ := hcut
              subst hwc
              clear HTB t0 t1 t2 e2 e3
              cases j with
              | zero =>
                have NV : NF 0 = tb := by have := NWj.out; simpa using this
                have HNV : Hid (NF 0 = tb) := NV
                clear NV NWj
                go_wp2_with fail
                go_roundg (L - (0 + 1))
                case measure => omega
                case rel => exact ⟨0 + 1, by omega, by omega, by go_num, O3.out.trans ((off_setCell (X := fun b => b = U.heap.size + 1) _ (show (fun b => b = U.heap.size + 1) (Addr.block ⟨U.heap.size + 1, 0, none⟩) from rfl) _).trans (Off.of_below (one_belowS _ _))), World.rowIs.alloc ((R3.out.set 0 _).congr (fun t _ => row_next (G := fun _ => false) HNV.out t)) _⟩
              | succ jj =>
                have rl : wr.cell? ⟨gl, jj, none⟩ = some (.bool (LA jj)) := RL3.out.cell (i := jj) (by omega)
                have rr : wr.cell? ⟨V.heap.size, jj, none⟩ = some (.bool (RA jj)) := RR3.out.cell (i := jj) (by omega)
                have i1 : ((jj + 1 : Nat) : Int) - 1 = (jj : Int) := by omega
                have i1' : (jj : Int) + 1 - 1 = (jj : Int) := by omega
                have hp : (0 : Int) < (jj : Int) + 1 := by omega
                have hpd : decide ((0 : Int) < (jj : Int) + 1) = true := decide_eq_true hp
                have hjL : (jj : Int) < (L : Int) := by omega
                have nw := NWj.out
                rw [if_neg (by omega), Nat.add_sub_cancel] at nw
                generalize LA jj = la at *
                generalize RA jj = ra at *
                cases tn with
                | true =>
                  have NV : Hid (NF (jj + 1) = (tb && la)) := (by simpa using nw : NF (jj + 1) = (tb && la))
                  clear nw NWj
                  cases tb with
                  | true =>
                    go_wp2_with fail
                    go_roundg (L - (jj + 1 + 1))
                    case measure => omega
                    case rel => exact ⟨(jj + 1) + 1, by omega, by omega, by go_num, O3.out.trans ((off_setCell (X := fun b => b = U.heap.size + 1) _ (show (fun b => b = U.heap.size + 1) (Addr.block ⟨U.heap.size + 1, (jj + 1), none⟩) from rfl) _).trans (Off.of_below (one_belowS _ _))), World.rowIs.alloc ((R3.out.set (jj + 1) _).congr (fun t _ => row_next (G := fun _ => false) (by first | exact NV.out | (rw [NV.out]; done) | (rw [NV.out]; simp)) t)) _⟩
                  | false =>
                    go_wp2_with fail
                    go_roundg (L - (jj + 1 + 1))
                    case measure => omega
                    case rel => exact ⟨(jj + 1) + 1, by omega, by omega, by go_num, O3.out.trans ((off_setCell (X := fun b => b = U.heap.size + 1) _ (show (fun b => b = U.heap.size + 1) (Addr.block ⟨U.heap.size + 1, (jj + 1), none⟩) from rfl) _).trans (Off.of_below (one_belowS _ _))), World.rowIs.alloc ((R3.out.set (jj + 1) _).congr (fun t _ => row_next (G := fun _ => false) (by first | exact NV.out | (rw [NV.out]; done) | (rw [NV.out]; simp)) t)) _⟩
                | false =>
                  have NV : Hid (NF (jj + 1) = (tb && ra)) := (by simpa using nw : NF (jj + 1) = (tb && ra))
                  clear nw NWj
                  cases tb with
                  | true =>
                    go_wp2_with fail
                    go_roundg (L - (jj + 1 + 1))
                    case measure => omega
                    case rel => exact ⟨(jj + 1) + 1, by omega, by omega, by go_num, O3.out.trans ((off_setCell (X := fun b => b = U.heap.size + 1) _ (show (fun b => b = U.heap.size + 1) (Addr.block ⟨U.heap.size + 1, (jj + 1), none⟩) from rfl) _).trans (Off.of_below (one_belowS _ _))), World.rowIs.alloc ((R3.out.set (jj + 1) _).congr (fun t _ => row_next (G := fun _ => false) (by first | exact NV.out | (rw [NV.out]; done) | (rw [NV.out]; simp)) t)) _⟩
                  | false =>
                    go_wp2_with fail
                    go_roundg (L - (jj + 1 + 1))
                    case measure => omega
                    case rel => exact ⟨(jj + 1) + 1, by omega, by omega, by go_num, O3.out.trans ((off_setCell (X := fun b => b = U.heap.size + 1) _ (show (fun b => b = U.heap.size + 1) (Addr.block ⟨U.heap.size + 1, (jj + 1), none⟩) from rfl) _).trans (Off.of_below (one_belowS _ _))), World.rowIs.alloc ((R3.out.set (jj + 1) _).congr (fun t _ => row_next (G := fun _ => false) (by first | exact NV.out | (rw [NV.out]; done) | (rw [NV.out]; simp)) t)) _⟩
            · have hjL : j = L := by omega
              subst hjL
              have RNF : Hid (wr.rowIs (U.heap.size + 1) 4 j (fun t => .bool (NF t))) := R3.out.congr (fun t ht => by rw [if_pos ht])
              clear R3 e2 e3 NW
              go_wp2_with fail
              obtain ⟨X, rfl⟩ : ∃ X, X = wr := ⟨_, rfl⟩
              go_loopg [113] j (fun g s113 w4 => ∃ t : Nat, t ≤ j ∧ j - t ≤ g ∧ s113 = .int .i64 t ∧ Hid (Off (fun b => b = V.heap.size) X w4) ∧ Hid (w4.rowIs V.heap.size 4 j (fun t' => .bool (if t' < t then (RA t' || NF t') else RA t'))))
              case atStart => exact ⟨0, by omega, by omega, rfl, Off.refl _ _, (show X.rowIs V.heap.size 4 j (fun t' => .bool (if t' < 0 then (RA t' || NF t') else RA t')) from RR3.out.congr (fun t _ => by rw [if_neg (Nat.not_lt_zero _)]))⟩
              case round =>
                obtain ⟨t, ht, hgt, rfl, O4, R4⟩ := hrel
                have hz4 := O4.out.size
                have RN4 : Hid (wr.rowIs (U.heap.size + 1) 4 j (fun t => .bool (NF t))) := RNF.out.of_block (O4.out.block _ hgn3 (by show ¬ U.heap.size + 1 = V.heap.size; omega))
                have hgn4 := RN4.out.lt
                have hgr4 := R4.out.lt
                by_cases htl : t < j
                · have htl2 : (t : Int) < (j : Int) := by omega
                  have rr : wr.cell? ⟨V.heap.size, t, none⟩ = some (.bool (RA t)) := by
                    have := R4.out.cell htl
                    rw [if_neg (Nat.lt_irrefl _)] at this
                    exact this
                  have rn : wr.cell? ⟨U.heap.size + 1, t, none⟩ = some (.bool (NF t)) := RN4.out.cell htl
                  have fzr : ∀ o, wr.frozen? ⟨V.heap.size, o, none⟩ = false := fun o => R4.out.frozen o
                  have HV : Hid (∀ v, (RA t || NF t) = v → (wr.setCell ⟨V.heap.size, t, none⟩ (.bool v)).rowIs V.heap.size 4 j (fun t' => .bool (if t' < t + 1 then (RA t' || NF t') else RA t'))) := fun v hv => (R4.out.set t (.bool v)).congr (fun t' _ => row_next (NF := fun t' => RA t' || NF t') (G := RA) hv t')
                  generalize hra : RA t = ra at *
                  generalize hnf : NF t = nf at *
                  clear hra hnf
                  cases ra with
                  | true =>
                    go_wp2_with fail
                    go_roundg (j - (t + 1))
                    case measure => omega
                    case rel => exact ⟨t + 1, by omega, by omega, by go_num, O4.out.trans (off_setCell (X := fun b => b = V.heap.size) _ (show (fun b => b = V.heap.size) (Addr.block ⟨V.heap.size, t, none⟩) from rfl) _), HV.out true rfl⟩
                  | false =>
                    go_wp2_with fail
                    go_roundg (j - (t + 1))
                    case measure => omega
                    case rel => exact ⟨t + 1, by omega, by omega, by go_num, O4.out.trans (off_setCell (X := fun b => b = V.heap.size) _ (show (fun b => b = V.heap.size) (Addr.block ⟨V.heap.size, t, none⟩) from rfl) _), HV.out nf rfl⟩
                · have htj : t = j := by omega
                  subst htj
                  have HB4 : Hid (Below V.heap.size V wr) := HB3.out.trans (O4.out.below (B := V.heap.size) (by omega) (fun k hk => by have : k = V.heap.size := hk; omega))
                  have F2 : Hid (wr.rowIs V.heap.size 4 t (fun j => .bool ((dpF S q (P.take (i2 + 1))).2 j))) := R4.out.congr (fun t' ht' => by rw [if_pos ht', DN2.out])
                  have F1 : Hid (wr.rowIs (U.heap.size + 1) 4 t (fun j => .bool ((dpF S q (P.take (i2 + 1))).1 j))) := RN4.out.congr (fun t' _ => by rw [DN2.out])
                  clear R4 RN4 DN2
                  go_wp2_with fail
                  go_roundg (lp - (i2 + 1))
                  case measure => omega
                  case rel => exact ⟨i2 + 1, U.heap.size + 1, by omega, by omega, by go_num, rfl, by omega, by omega, HB4, F2, F1⟩
        · have hie : i2 = lp := by omega
          have hP : P.take i2 = P := List.take_of_length_le (by rw [HLP.out]; omega)
          obtain ⟨L', hL'⟩ : ∃ L', L = L' + 1 := ⟨L - 1, by omega⟩
          have rl := RLs.out.cell (i := L') (by omega)
          have hR : (dpF S q (P.take i2)).1 L' = RES := by
            have := RS.out
            rw [hL', Nat.add_sub_cancel] at this
            rw [hP]
            exact this
          rw [hR] at rl
          subst hL'
          clear RR RLs hR hP hie
          go_wp2_with fail
          go_ret
          exact ⟨rfl, HBw.out⟩
    · subst hx
      have h0 := hup 0 y rfl
      have hy2 : (y : Int) < (n : Int) := by omega
      have hyb : ((y : Int) == -1) = false := beq_eq_false_iff_ne.2 (by omega)
      have EQ : Hid (P = (ppF S (n + 1 - (i + 1)) (nd S y).p).reverse ++ ((y : Int) :: l)) := by
        have e := HE.out
        rw [show n + 1 - i = (n + 1 - (i + 1)) + 1 by omega, PS.out _ y hyn] at e
        show P = _
        rw [e]
        simp
      have HX2 : Hid ((nd S y).p = -1 ∨ ∃ y' : Nat, (nd S y).p = y' ∧ y' < n ∧ ∀ j z, PUp S j y' z → j < n + 1 - (i + 1)) := by
        rcases PI.out y hyn with h | ⟨p0, h1, h2⟩
        · exact Or.inl h
        · refine Or.inr ⟨p0, h1, h2, fun j z h => ?_⟩
          have := hup (j + 1) z ⟨p0, by rw [HN.out]; exact h2, h1, h⟩
          omega
      clear HX HE hup hln
      have OWB : Hid ((wr.alloc (.cells #[.int .i64 (y : Int)] 3)).ownsRow (w.heap.size + 1) 3 1 (.slice (some ⟨wr.heap.size, 0, none⟩) 1 1) 1 [.int .i64 (y : Int)]) := World.ownsRow_lit (base := w.heap.size + 1) (e := 3) (size := 1) wr #[.int .i64 (y : Int)] 1 hsz (by unfold maxLen; omega) (by simp)
      obtain ⟨pa', pc', e8, hints, _⟩ := own_slice (show wr.ownsRow (w.heap.size + 1) 3 1 (.slice pa ln pc) l.length (l.map (Value.int .i64)) by rw [HLN.out]; exact HO.out)
      have e9 : pa' = pa := by cases e8; rfl
      subst e9
      have HIl : Hid (IntsAt (wr.alloc (.cells #[.int .i64 (y : Int)] 3)) pa' l) := (show IntsAt wr pa' l from hints).below (one_belowS _ _)
      clear hints e8
      go_wp2_with (at_builtin; refine wpList_append_ints rfl _ _ rfl (w.heap.size + 1) _ 1 _ rfl OWB.out pa' ln pc l rfl HLN.out HIl.out (by unfold maxLen; omega) (by omega) (by simp; omega) ?_)
      intro v' w2 hown' hgrow _
      have hb2 : Below (w.heap.size + 1) wr w2 := ((Below.refl _ wr).alloc (by omega) _).grown hgrow (by simp; omega) (fun k hk => by cases hk; omega)
      have HB2 : Hid (Below w.heap.size w w2) := HB.out.trans (hb2.mono (by omega))
      have cs2 := (hb2.cell (p := ⟨w.heap.size, 0, none⟩) (by show w.heap.size < _; omega)).trans cs
      have hcs2 := World.block_lt_of_cell? _ _ cs2
      have hs2 := hb2.size
      have HO2 : Hid (w2.ownsRow (w.heap.size + 1) 3 1 v' ((y : Int) :: l).length (((y : Int) :: l).map (Value.int .i64))) := by
        have h2 := hown'
        rw [show ((y : Int) :: l).length = 1 + ln by simp [HLN.out]; omega]
        exact h2
      obtain ⟨nb, no, ea, _, _, _, _, c4, _, _, _⟩ := (HS.out.below HB2.out) y (by rw [HN.out]; exact hyn)
      subst ea
      clear hown' hgrow hb2 cs HO OWB HIl
      generalize (nd S y).p = py at *
      go_wp2_with fail
      go_roundg (n + 1 - (i + 1) + 1)
      case measure => omega
      case rel => exact ⟨i + 1, py, (y : Int) :: l, by omega, by omega, rfl, by simp [HLN.out]; omega, cs2, by omega, HB2, HO2, EQ, HX2⟩
end Go.Proofs.Ytjlapfgghljidab
