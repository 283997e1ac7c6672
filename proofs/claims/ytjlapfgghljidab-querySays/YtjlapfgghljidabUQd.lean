/-
  The reference's CheckQuery, FitsTo, FoundBy; the program's Fits where it errs.
-/
import Derived.Test.YtjlapfgghljidabUQc
import Derived.Test.YtjlapfgghljidabUVg
import Derived.Test.YtjlapfgghljidabUQbRv
namespace Go.Proofs.Ytjlapfgghljidab
open Go.RowKit

theorem rOrd_like (a : Option Addr) (c : Nat) (S : List Nd) (k : Nat) (u : Int) (w : World) (wf : WF S) (hC : RChk a c S) (hS : NdsAt w a S) (hk : k < S.length) (hE : tcheckE S [((k : Int), u)] = 0) :
    Calls Try.prog 48 #[.agg #[.slice a S.length c], .agg #[.int .i64 k, .int .i64 u]] w fun e w' => ∃ sa cap, e = .returned (.tuple #[.slice sa (orderF S S.length k).length cap, .int .i64 0]) ∧ Below w.heap.size w w' ∧ IntsAt w' sa (orderF S S.length k) ∧ (orderF S S.length k).length ≤ cap ∧ cap ≤ 9223372036854775807 := by
  refine (rOrd_ok a c S k u w wf hC hS hk hE).mono (fun e w' ⟨v, e1, hb, ho⟩ => ?_)
  have hpos := orderS_pos S k
  rcases ho.2 with ⟨_, h⟩ | ⟨g, cap, cur, h, _, _, h3, h4, _⟩
  · omega
  · obtain ⟨pa, pc, h5, hi, _⟩ := own_slice ho
    rw [h] at h5
    cases h5
    subst h
    exact ⟨_, cap, e1, hb, hi, h3, by unfold maxLen at h4; omega⟩

theorem tOk_in (te : Tst) : tOkB te = ((decide (te.t = -1000001) || decide (0 ≤ te.t ∧ te.t ≤ 99)) && decide (-1000001 ≤ te.m ∧ te.m ≤ 1000000)) := by
  unfold tOkB
  congr 1
  rw [Bool.eq_iff_iff]
  simp
  omega

set_option maxRecDepth 100000 in
set_option maxHeartbeats 4000000 in
theorem rQChk_any (qa : Option Addr) (qc : Nat) (q : List Tst) (w : World) (hq : q.length ≤ 9223372036854775807) (hQ : TestsAt w qa q) :
    Calls Try.prog 19 #[.slice qa q.length qc] w fun e w' => e = .returned (.int .i64 (qcheckE q)) ∧ Below w.heap.size w w' := by
  have HQ : Hid (TestsAt w qa q) := hQ
  have d1 := rin_any (q.length : Int) 1 6
  have DR : Hid (∀ k, k < q.length → testsE k (q.drop k) = if tOkB (tst q k) then (if decide (k = 0) && (tst q k).near then 3 else testsE (k + 1) (q.drop (k + 1))) else 2) := fun k hk => by rw [drop_tst hk]; rfl
  have DE : Hid (testsE q.length (q.drop q.length) = 0) := by show _ = _; rw [List.drop_length]; rfl
  unfold qcheckE
  clear hQ
  have H0 : Hid (testsE 0 q = testsE 0 (q.drop 0)) := rfl
  generalize testsE 0 q = E at *
  generalize hl : q.length = L at *
  have HL : Hid _ := hl
  clear hl
  cases hb : decide (1 ≤ (L : Int) ∧ (L : Int) ≤ 6) with
  | false =>
    rw [hb] at d1
    have D1 : Hid _ := d1
    simp only [Bool.false_eq_true, if_false]
    clear hb d1
    go_enter Try.func19, Try.ntmps19
    go_wp2_with fail
    refine Calls.mono (D1.out _) ?_
    rintro e w' ⟨rfl, hw'⟩
    have hw2 := hw'.symm
    clear hw'
    subst hw2
    go_wp2_with fail
    go_ret
    exact ⟨rfl, Below.refl _ _⟩
  | true =>
    rw [hb] at d1
    have D1 : Hid _ := d1
    have hL6 : 1 ≤ (L : Int) ∧ (L : Int) ≤ 6 := of_decide_eq_true hb
    simp only [if_true]
    clear hb d1
    go_enter Try.func19, Try.ntmps19
    go_wp2_with fail
    refine Calls.mono (D1.out _) ?_
    rintro e w' ⟨rfl, hw'⟩
    have hw2 := hw'.symm
    clear hw'
    subst hw2
    go_wp2_with fail
    go_loopg [11] L (fun g1 s11 wr => ∃ k : Nat, k ≤ L ∧ L - k ≤ g1 ∧ s11 = .int .i64 k ∧ Hid (Below w.heap.size w wr) ∧ Hid (E = testsE k (q.drop k)))
    case atStart => exact ⟨0, by omega, by omega, rfl, Below.refl _ _, H0⟩
    case round =>
      obtain ⟨k, hk, hg1, rfl, HB, HE⟩ := hrel
      by_cases hlt : k < L
      · have hlt2 : (k : Int) < (L : Int) := by omega
        obtain ⟨qb, qo, eq, q0, q1, q2⟩ := (HQ.out.below HB.out) k (by rw [HL.out]; exact hlt)
        subst eq
        have DK := DR.out k (by omega)
        have TK := tOk_in (tst q k)
        generalize tst q k = te at *
        generalize hok : tOkB te = ok at *
        obtain ⟨tt, tm, tn⟩ := te
        dsimp only at q0 q1 q2 DK TK
        have HDK : Hid _ := DK
        have HTK : Hid _ := TK
        have D2 : Hid _ := fun W => rin_any tt 0 99 W
        have D3 : Hid _ := fun W => rin_any tm (-1000001) 1000000 W
        clear DK TK hok
        obtain ⟨b1, hb1⟩ : ∃ b, decide (0 ≤ tt ∧ tt ≤ 99) = b := ⟨_, rfl⟩
        obtain ⟨b2, hb2⟩ : ∃ b, decide (-1000001 ≤ tm ∧ tm ≤ 1000000) = b := ⟨_, rfl⟩
        rw [hb1] at HTK D2
        rw [hb2] at HTK D3
        clear hb1 hb2
        go_upto_region 6 with fail
        obtain ⟨W5, hW5⟩ : ∃ W5, wr.alloc (.cells #[.int .i64 tt, .int .i64 tm, .bool tn] 45) = W5 := ⟨_, rfl⟩
        have e0 : W5.cell? ⟨wr.heap.size, 0, none⟩ = some (.int .i64 tt) := by rw [← hW5]; exact alloc_cell _ _ _ 0 rfl
        have e1 : W5.cell? ⟨wr.heap.size, 1, none⟩ = some (.int .i64 tm) := by rw [← hW5]; exact alloc_cell _ _ _ 1 rfl
        have e2 : W5.cell? ⟨wr.heap.size, 2, none⟩ = some (.bool tn) := by rw [← hW5]; exact alloc_cell _ _ _ 2 rfl
        have HB5 : Hid (Below w.heap.size w W5) := by rw [← hW5]; exact HB.out.alloc HB.out.size _
        rw [hW5]
        clear hW5 q0 q1 q2
        go_cut [30] (fun s30 wx => s30 = .bool (!ok) ∧ wx = W5)
        case first =>
          by_cases h1 : tt = -1000001
          · have ht := HTK.out
            rw [decide_eq_true h1, Bool.true_or, Bool.true_and] at ht
            subst h1
            clear D2
            cases b2 with
            | true =>
              subst ht
              go_wp2_with fail
              refine Calls.mono (D3.out _) ?_
              rintro e w7 ⟨rfl, hw7⟩
              subst hw7
              go_wp2_with fail
              go_meet
              case rel => exact ⟨rfl, rfl⟩
            | false =>
              subst ht
              go_wp2_with fail
              refine Calls.mono (D3.out _) ?_
              rintro e w7 ⟨rfl, hw7⟩
              subst hw7
              go_wp2_with fail
              go_meet
              case rel => exact ⟨rfl, rfl⟩
          · have ht := HTK.out
            rw [decide_eq_false h1, Bool.false_or] at ht
            have p1 : (tt == -1000001) = false := beq_eq_false_iff_ne.2 h1
            have p2 : (tt != -1000001) = true := by simp [h1]
            have p3 : decide (tt = -1000001) = false := decide_eq_false h1
            cases b1 with
            | false =>
              rw [Bool.false_and] at ht
              subst ht
              go_wp2_with fail
              refine Calls.mono (D2.out _) ?_
              rintro e w6 ⟨rfl, hw6⟩
              subst hw6
              go_wp2_with fail
              go_meet
              case rel => exact ⟨rfl, rfl⟩
            | true =>
              rw [Bool.true_and] at ht
              cases b2 with
              | true =>
                subst ht
                go_wp2_with fail
                refine Calls.mono (D2.out _) ?_
                rintro e w6 ⟨rfl, hw6⟩
                subst hw6
                go_wp2_with fail
                refine Calls.mono (D3.out _) ?_
                rintro e w7 ⟨rfl, hw7⟩
                subst hw7
                go_wp2_with fail
                go_meet
                case rel => exact ⟨rfl, rfl⟩
              | false =>
                subst ht
                go_wp2_with fail
                refine Calls.mono (D2.out _) ?_
                rintro e w6 ⟨rfl, hw6⟩
                subst hw6
                go_wp2_with fail
                refine Calls.mono (D3.out _) ?_
                rintro e w7 ⟨rfl, hw7⟩
                subst hw7
                go_wp2_with fail
                go_meet
                case rel => exact ⟨rfl, rfl⟩
        case rest =>
        obtain ⟨rfl, hwc⟩ := hcut
        subst hwc
        clear HTK D2 D3
        cases ok with
        | false =>
          have E2 : Hid (E = 2) := by show _ = _; rw [HE.out, HDK.out]; rfl
          clear HE HDK
          go_wp2_with fail
          go_ret
          exact ⟨by rw [E2.out]; rfl, HB5.out⟩
        | true =>
          cases tn with
          | false =>
            have E2 : Hid (E = testsE (k + 1) (q.drop (k + 1))) := by show _ = _; rw [HE.out, HDK.out]; simp
            clear HE HDK
            go_wp2_with fail
            go_roundg (L - (k + 1))
            case measure => omega
            case rel => exact ⟨k + 1, by omega, by omega, by go_num, HB5, E2⟩
          | true =>
            cases k with
            | zero =>
              have E2 : Hid (E = 3) := by show _ = _; rw [HE.out, HDK.out]; rfl
              clear HE HDK
              go_wp2_with fail
              go_ret
              exact ⟨by rw [E2.out]; rfl, HB5.out⟩
            | succ kk =>
              have E2 : Hid (E = testsE (kk + 1 + 1) (q.drop (kk + 1 + 1))) := by show _ = _; rw [HE.out, HDK.out]; simp
              have hk0 : (((kk + 1 : Nat) : Int) == 0) = false := beq_eq_false_iff_ne.2 (by omega)
              have hk1 : (((kk : Int) + 1) == 0) = false := beq_eq_false_iff_ne.2 (by omega)
              clear HE HDK
              go_wp2_with fail
              go_roundg (L - (kk + 1 + 1))
              case measure => omega
              case rel => exact ⟨kk + 1 + 1, by omega, by omega, by go_num, HB5, E2⟩
      · have hkl : k = L := by omega
        subst hkl
        have E2 : Hid (E = 0) := by
          show _ = _
          rw [HE.out]
          exact DE.out
        clear HE
        go_wp2_with fail
        go_ret
        exact ⟨by rw [E2.out]; rfl, HB.out⟩

end Go.Proofs.Ytjlapfgghljidab
