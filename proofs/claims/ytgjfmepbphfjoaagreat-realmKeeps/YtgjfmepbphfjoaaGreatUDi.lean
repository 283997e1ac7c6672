/-
  RealmKeeps at whatever arguments.
-/
import Derived.Test.YtgjfmepbphfjoaaGreatUDg
import Derived.Test.YtgjfmepbphfjoaaGreatURaRbWeRcDd
namespace Go.Proofs.YtgjfmepbphfjoaaGreat
open Go.RowKit
set_option linter.unusedVariables false

theorem box5_facts {W : World} {b t : Nat} {v0 v1 v2 v3 v4 : Value} (h : W.heap[b]? = some (.cells #[v0, v1, v2, v3, v4] t (0, 0))) : W.cell? ⟨b, 0, none⟩ = some v0 ∧ (∀ o, W.frozen? ⟨b, o, none⟩ = false) ∧ b < W.heap.size :=
  ⟨by simp [World.cell?, h], fun o => by simp [World.frozen?, h], box_lt h⟩
theorem kinds_at (W : World) (t : Nat) : IntsAt (W.alloc (.cells #[.int .i64 6, .int .i64 14, .int .i64 15] t)) (some ⟨W.heap.size, 0, none⟩) [6, 14, 15] := fun i hi => by
  match i, hi with
  | 0, _ => exact ⟨_, _, rfl, alloc_cell W _ t 0 rfl⟩
  | 1, _ => exact ⟨_, _, rfl, alloc_cell W _ t 1 rfl⟩
  | 2, _ => exact ⟨_, _, rfl, alloc_cell W _ t 2 rfl⟩
/-- What stays so. -/
structure KeepI (w : World) (yb : Nat) (R P : Rl) (a0 a1 a2 a3 : Option Addr) (c0 c1 c2 c3 : Nat) (y0 y1 y2 y3 : Option Addr) (z0 z1 z2 z3 : Nat) (xk xq xr xs xn : Int) (wr : World) : Prop where
  bel : Below w.heap.size w wr
  r : wr.heap[w.heap.size]? = some (.cells #[.slice a0 R.s.length c0, .slice a1 R.hs.length c1, .slice a2 R.i.length c2, .slice a3 R.t.length c3] 31 (0, 0))
  x : wr.heap[w.heap.size + 1]? = some (.cells #[.int .i64 xk, .int .i64 xq, .int .i64 xr, .int .i64 xs, .int .i64 xn] 41 (0, 0))
  y : wr.heap[yb]? = some (.cells #[.slice y0 P.s.length z0, .slice y1 P.hs.length z1, .slice y2 P.i.length z2, .slice y3 P.t.length z3] 31 (0, 0))
  rl : RlAt wr ⟨a0, a1, a2, a3, c0, c1, c2, c3⟩ R
  rp : RlAt wr ⟨y0, y1, y2, y3, z0, z1, z2, z3⟩ P
theorem KeepI.below {w wr wr' : World} {yb : Nat} {R P : Rl} {a0 a1 a2 a3 : Option Addr} {c0 c1 c2 c3 : Nat} {y0 y1 y2 y3 : Option Addr} {z0 z1 z2 z3 : Nat} {xk xq xr xs xn : Int} (I : KeepI w yb R P a0 a1 a2 a3 c0 c1 c2 c3 y0 y1 y2 y3 z0 z1 z2 z3 xk xq xr xs xn wr) (hb : Below wr.heap.size wr wr') : KeepI w yb R P a0 a1 a2 a3 c0 c1 c2 c3 y0 y1 y2 y3 z0 z1 z2 z3 xk xq xr xs xn wr' :=
  ⟨I.bel.trans (hb.mono I.bel.size), keepB I.r hb, keepB I.x hb, keepB I.y hb, I.rl.below hb, I.rp.below hb⟩

set_option maxRecDepth 100000 in
set_option maxHeartbeats 2000000 in
theorem realmKeeps_ok (hN : NewAns) (hD : DoAns) (hC : RCheckAns) (a0 a1 a2 a3 : Option Addr) (c0 c1 c2 c3 : Nat) (R : Rl) (xk xq xr xs xn : Int) (w : World) (hE : (doF R ⟨xk, xq, xr, xs, xn⟩).e = 0) (hL : RlAt w ⟨a0, a1, a2, a3, c0, c1, c2, c3⟩ R) :
    Calls Tryz.prog 5 #[.agg #[.slice a0 R.s.length c0, .slice a1 R.hs.length c1, .slice a2 R.i.length c2, .slice a3 R.t.length c3], .agg #[.int .i64 xk, .int .i64 xq, .int .i64 xr, .int .i64 xs, .int .i64 xn]] w fun e w' => e = .returned (.bool true) ∧ Below w.heap.size w w' := by
  obtain ⟨hR, K, hP⟩ := do_kept hE
  have DO : Hid HousedOk := housed_ok hN hD
  have DD := do_at hD (big_right hR) (do_eq hE) a0 a1 a2 a3 c0 c1 c2 c3
  dsimp only at DD
  obtain ⟨P, hPe⟩ : ∃ P, (doF R ⟨xk, xq, xr, xs, xn⟩).r = P := ⟨_, rfl⟩
  obtain ⟨told, hTe⟩ : ∃ P, (doF R ⟨xk, xq, xr, xs, xn⟩).o = P := ⟨_, rfl⟩
  rw [hPe, hTe] at DD K
  rw [hPe] at hP
  clear hPe hTe hE
  have DDH : Hid _ := DD
  have DC : Hid (∀ (y0 y1 y2 y3 : Option Addr) (z0 z1 z2 z3 : Nat) W, RlAt W ⟨y0, y1, y2, y3, z0, z1, z2, z3⟩ P → Calls Tryz.prog 7 #[.agg #[.slice y0 P.s.length z0, .slice y1 P.hs.length z1, .slice y2 P.i.length z2, .slice y3 P.t.length z3]] W fun e w' => e = .returned (.int .i64 0) ∧ Below W.heap.size W w') := fun y0 y1 y2 y3 z0 z1 z2 z3 W hW => by
    have h := hC ⟨y0, y1, y2, y3, z0, z1, z2, z3⟩ P W (big_right hP) hW
    rw [hP] at h
    exact h
  have DG : Hid (∀ (y2 : Option Addr) (z2 : Nat) W, ClsAt W y2 P.i → ClsAt W a2 R.i → Calls Tryz.prog 18 #[.agg #[.slice y2 P.i.length z2], .agg #[.slice a2 R.i.length c2]] W fun e w' => e = .returned (.bool true) ∧ Below W.heap.size W w') := fun y2 z2 W h1 h2 => by
    refine (rgsame_any y2 a2 z2 c2 P.i R.i W (big_right hP).2.2.2.1 (big_right hP).2.2.2.2.1 h1 h2).mono ?_
    rintro e w' ⟨r, rfl, hb, hr⟩
    rw [hr.2 K.inn]
    exact ⟨rfl, hb⟩
  have DT : Hid (∀ (y3 : Option Addr) (z3 : Nat) W, IntsAt W y3 P.t → IntsAt W a3 R.t → Calls Tryz.prog 19 #[.slice y3 P.t.length z3, .slice a3 R.t.length c3] W fun e w' => e = .returned (.bool true) ∧ Below W.heap.size W w') := fun y3 z3 W h1 h2 => by
    refine (equal_any y3 a3 z3 c3 P.t R.t W (big_right hP).2.2.2.2.2 h1 h2).mono ?_
    rintro e w' ⟨rfl, hb⟩
    rw [decide_eq_true K.tld]
    exact ⟨rfl, hb⟩
  have DS : Hid (∀ (y0 y1 y2 y3 : Option Addr) (z0 z1 z2 z3 : Nat) W, RlAt W ⟨y0, y1, y2, y3, z0, z1, z2, z3⟩ P → RlAt W ⟨a0, a1, a2, a3, c0, c1, c2, c3⟩ R → (xk = 6 ∨ xk = 14 ∨ xk = 15) → Calls Tryz.prog 14 #[.agg #[.slice y0 P.s.length z0, .slice y1 P.hs.length z1, .slice y2 P.i.length z2, .slice y3 P.t.length z3], .agg #[.slice a0 R.s.length c0, .slice a1 R.hs.length c1, .slice a2 R.i.length c2, .slice a3 R.t.length c3]] W fun e w' => e = .returned (.bool true) ∧ Below W.heap.size W w') := fun y0 y1 y2 y3 z0 z1 z2 z3 W h1 h2 hk => by
    refine (rsameR_any ⟨y0, y1, y2, y3, z0, z1, z2, z3⟩ ⟨a0, a1, a2, a3, c0, c1, c2, c3⟩ P R W (big_right hP) h1 h2).mono ?_
    rintro e w' ⟨r, rfl, hb, hr⟩
    rw [hr.2 (K.same hk)]
    exact ⟨rfl, hb⟩
  have CT : Hid (∀ (W : World) (t : Nat), Calls Tryz.prog 17 #[.slice (some ⟨W.heap.size, 0, none⟩) 3 3, .int .i64 xk] (W.alloc (.cells #[.int .i64 6, .int .i64 14, .int .i64 15] t)) fun e w' => e = .returned (.bool (decide (xk ∈ ([6, 14, 15] : List Int)))) ∧ w' = W.alloc (.cells #[.int .i64 6, .int .i64 14, .int .i64 15] t)) := fun W t => contains_any (some ⟨W.heap.size, 0, none⟩) 3 [6, 14, 15] xk _ (by decide) (kinds_at W t)
  have TOLD : Hid (told ≠ 0 → xk = 6 ∨ xk = 14 ∨ xk = 15) := K.told
  have MARKS : Hid (∀ j, j ≤ R.s.length → markN R.s P.s j ≤ 1) := K.marks
  have HANDS : Hid (∀ j, handN R.hs P.hs j ≤ 1) := K.hands
  have USES : Hid (∀ i, i < R.s.length → (nd R.s i).n ≤ (nd P.s i).n ∧ (nd P.s i).n ≤ (nd R.s i).n + 1 ∧ ((nd P.s i).u = true → (nd R.s i).u = true → (nd P.s i).t = (nd R.s i).t ∧ (nd P.s i).n = (nd R.s i).n)) := fun i hi => K.uses hi
  have RNG : Hid (∀ i, i < R.s.length → 0 ≤ (nd R.s i).n ∧ (nd R.s i).n ≤ 1000000) := fun i hi => ⟨((rcheck_parts hR).1.uses hi).1, ((rcheck_parts hR).1.uses hi).2.1⟩
  have LEN : Hid (P.s.length = R.s.length) := K.len
  have HLN : Hid (P.hs.length = R.hs.length) := K.hlen
  have psmall : P.s.length ≤ 24 := by rw [K.len]; exact (rcheck_parts hR).1.small
  have small : R.s.length ≤ 24 := (rcheck_parts hR).1.small
  have H16 : Hid (R.hs.length = 16) := (rcheck_parts hR).2.1
  have HL : Hid (RlAt w ⟨a0, a1, a2, a3, c0, c1, c2, c3⟩ R) := hL
  have lq1 : decide ((P.s.length : Int) = (R.s.length : Int)) = true := decide_eq_true (by rw [K.len])
  have lq3 : ((P.s.length : Int) != (R.s.length : Int)) = false := by rw [K.len]; simp
  have lq2 : ((P.s.length : Int) == (R.s.length : Int)) = true := beq_iff_eq.2 (by rw [K.len])
  clear hN hD hC K hP hR hL DD
  go_enter Tryz.func5, Tryz.ntmps5
  go_wp2_with fail
  refine Calls.mono (DDH.out _ (HL.out.below (two_belowS _ _ _))) ?_
  rintro e w1 ⟨y0, y1, y2, y3, z0, z1, z2, z3, rfl, hb, hY⟩
  have HI1 : Hid (KeepI w w1.heap.size R P a0 a1 a2 a3 c0 c1 c2 c3 y0 y1 y2 y3 z0 z1 z2 z3 xk xq xr xs xn (w1.alloc (.cells #[.slice y0 P.s.length z0, .slice y1 P.hs.length z1, .slice y2 P.i.length z2, .slice y3 P.t.length z3] 31))) := by
    have hb1 : Below w.heap.size w w1 := (two_belowS w _ _).trans (hb.mono (by simp; omega))
    have g1 : ((w.alloc (.cells #[.slice a0 R.s.length c0, .slice a1 R.hs.length c1, .slice a2 R.i.length c2, .slice a3 R.t.length c3] 31)).alloc (.cells #[.int .i64 xk, .int .i64 xq, .int .i64 xr, .int .i64 xs, .int .i64 xn] 41)).heap[w.heap.size]? = some (.cells #[.slice a0 R.s.length c0, .slice a1 R.hs.length c1, .slice a2 R.i.length c2, .slice a3 R.t.length c3] 31 (0, 0)) := keepB (box4_new _ _ _ _ _ _) (one_belowS _ _)
    have g2 : ((w.alloc (.cells #[.slice a0 R.s.length c0, .slice a1 R.hs.length c1, .slice a2 R.i.length c2, .slice a3 R.t.length c3] 31)).alloc (.cells #[.int .i64 xk, .int .i64 xq, .int .i64 xr, .int .i64 xs, .int .i64 xn] 41)).heap[w.heap.size + 1]? = some (.cells #[.int .i64 xk, .int .i64 xq, .int .i64 xr, .int .i64 xs, .int .i64 xn] 41 (0, 0)) := by simpa using heap_alloc_new (w.alloc (.cells #[.slice a0 R.s.length c0, .slice a1 R.hs.length c1, .slice a2 R.i.length c2, .slice a3 R.t.length c3] 31)) (.cells #[.int .i64 xk, .int .i64 xq, .int .i64 xr, .int .i64 xs, .int .i64 xn] 41)
    exact ⟨hb1.trans ((one_belowS w1 _).mono hb1.size), keepB (keepB g1 hb) (one_belowS _ _), keepB (keepB g2 hb) (one_belowS _ _), box4_new _ _ _ _ _ _, HL.out.below (hb1.trans ((one_belowS w1 _).mono hb1.size)), hY.below (one_belowS _ _)⟩
  clear hb hY DDH
  obtain ⟨l0, l1, l2, l3, fl, ll⟩ := box4_facts HI1.out.r
  obtain ⟨m0, fm, lm⟩ := box5_facts HI1.out.x
  obtain ⟨n0, n1, n2, n3, fn, ln⟩ := box4_facts HI1.out.y
  clear HL
  go_wp2_with fail
  refine Calls.mono (DO.out _) ?_
  rintro e w2 ⟨rfl, hb⟩
  have HI2 : Hid (KeepI w w1.heap.size R P a0 a1 a2 a3 c0 c1 c2 c3 y0 y1 y2 y3 z0 z1 z2 z3 xk xq xr xs xn w2) := HI1.out.below (hb)
  clear l0 l1 l2 l3 fl ll m0 fm lm n0 n1 n2 n3 fn ln
  obtain ⟨l0, l1, l2, l3, fl, ll⟩ := box4_facts HI2.out.r
  obtain ⟨m0, fm, lm⟩ := box5_facts HI2.out.x
  obtain ⟨n0, n1, n2, n3, fn, ln⟩ := box4_facts HI2.out.y
  clear hb HI1
  go_wp2_with fail
  refine Calls.mono (DC.out y0 y1 y2 y3 z0 z1 z2 z3 _ HI2.out.rp) ?_
  rintro e w3 ⟨rfl, hb⟩
  have HI3 : Hid (KeepI w w1.heap.size R P a0 a1 a2 a3 c0 c1 c2 c3 y0 y1 y2 y3 z0 z1 z2 z3 xk xq xr xs xn w3) := HI2.out.below (hb)
  clear l0 l1 l2 l3 fl ll m0 fm lm n0 n1 n2 n3 fn ln
  obtain ⟨l0, l1, l2, l3, fl, ll⟩ := box4_facts HI3.out.r
  obtain ⟨m0, fm, lm⟩ := box5_facts HI3.out.x
  obtain ⟨n0, n1, n2, n3, fn, ln⟩ := box4_facts HI3.out.y
  clear hb HI2
  by_cases ht : told = 0
  · subst ht
    go_wp2_with fail
    refine Calls.mono (DG.out y2 z2 _ HI3.out.rp.2.2.1 HI3.out.rl.2.2.1) ?_
    rintro e w5 ⟨rfl, hb⟩
    have HI5 : Hid (KeepI w w1.heap.size R P a0 a1 a2 a3 c0 c1 c2 c3 y0 y1 y2 y3 z0 z1 z2 z3 xk xq xr xs xn w5) := HI3.out.below (hb)
    clear l0 l1 l2 l3 fl ll m0 fm lm n0 n1 n2 n3 fn ln
    obtain ⟨l0, l1, l2, l3, fl, ll⟩ := box4_facts HI5.out.r
    obtain ⟨m0, fm, lm⟩ := box5_facts HI5.out.x
    obtain ⟨n0, n1, n2, n3, fn, ln⟩ := box4_facts HI5.out.y
    clear hb HI3
    go_wp2_with fail
    refine Calls.mono (DT.out y3 z3 _ HI5.out.rp.2.2.2 HI5.out.rl.2.2.2) ?_
    rintro e w6 ⟨rfl, hb⟩
    have HI6 : Hid (KeepI w w1.heap.size R P a0 a1 a2 a3 c0 c1 c2 c3 y0 y1 y2 y3 z0 z1 z2 z3 xk xq xr xs xn w6) := HI5.out.below (hb)
    clear l0 l1 l2 l3 fl ll m0 fm lm n0 n1 n2 n3 fn ln
    obtain ⟨l0, l1, l2, l3, fl, ll⟩ := box4_facts HI6.out.r
    obtain ⟨m0, fm, lm⟩ := box5_facts HI6.out.x
    obtain ⟨n0, n1, n2, n3, fn, ln⟩ := box4_facts HI6.out.y
    clear hb HI5
    go_wp2_with fail
    go_loopg [8, 74] P.s.length (fun g s8 s74 wr => ∃ j : Nat, j ≤ P.s.length ∧ P.s.length - j ≤ g ∧ s74 = .int .i64 j ∧ s8 = .int .i64 ((markN R.s P.s j : Nat) : Int) ∧ Hid (KeepI w w1.heap.size R P a0 a1 a2 a3 c0 c1 c2 c3 y0 y1 y2 y3 z0 z1 z2 z3 xk xq xr xs xn wr))
    case atStart => exact ⟨0, by omega, by omega, rfl, rfl, HI6⟩
    case round =>
      clear HI6
      clear l0 l1 l2 l3 fl ll m0 fm lm n0 n1 n2 n3 fn ln
      obtain ⟨j, hj, hg, rfl, rfl, HI⟩ := hrel
      obtain ⟨l0, l1, l2, l3, fl, ll⟩ := box4_facts HI.out.r
      obtain ⟨m0, fm, lm⟩ := box5_facts HI.out.x
      obtain ⟨n0, n1, n2, n3, fn, ln⟩ := box4_facts HI.out.y
      by_cases hlt : j < P.s.length
      · have hlt2 : (j : Int) < (P.s.length : Int) := by omega
        have hltr : j < R.s.length := by rw [← LEN.out]; exact hlt
        have hltr2 : (j : Int) < (R.s.length : Int) := by omega
        obtain ⟨pb, po, ep, p0, p1, p2, p3, p4, ⟨pka, pkc, p5, _⟩, p6, p7⟩ := HI.out.rp.1 j hlt
        obtain ⟨rb, ro, er, r0, r1, r2, r3, r4, ⟨rka, rkc, r5, _⟩, r6, r7⟩ := HI.out.rl.1 j hltr
        dsimp only at ep er
        subst ep
        subst er
        have plt : pb < wr.heap.size := World.block_lt_of_cell? _ _ p0
        have rlt : rb < wr.heap.size := World.block_lt_of_cell? _ _ r0
        have hm1 := MARKS.out j (by omega)
        have MS : Hid (markN R.s P.s (j + 1) = markN R.s P.s j + if (nd P.s j).m = (nd R.s j).m then 0 else 1) := rfl
        obtain ⟨hu1, hu2, hu3⟩ := USES.out j hltr
        obtain ⟨hr1, hr2⟩ := RNG.out j hltr
        obtain ⟨mc, hmc⟩ : ∃ m, markN R.s P.s j = m := ⟨_, rfl⟩
        rw [hmc] at hm1 MS ⊢
        clear hmc
        generalize nd P.s j = u at *
        generalize nd R.s j = v at *
        obtain ⟨uu, un, ut, um, up, uks, uh, uc⟩ := u
        obtain ⟨vu, vn, vt, vm, vp, vks, vh, vc⟩ := v
        dsimp only at p0 p1 p2 p3 p4 p5 p6 p7 r0 r1 r2 r3 r4 r5 r6 r7 hu1 hu2 hu3 hr1 hr2 MS
        generalize uks.length = ukl at *
        generalize vks.length = vkl at *
        have hw : IntKind.i64.wrap (vn + 1) = vn + 1 := by rw [IntKind.wrap_i64]; omega
        have g1 : decide (un < vn) = false := decide_eq_false (by omega)
        have g2 : decide (vn + 1 < un) = false := decide_eq_false (by omega)
        have hmw : IntKind.i64.wrap ((mc : Int) + 1) = (mc : Int) + 1 := by rw [IntKind.wrap_i64]; omega
        by_cases em : um = vm
        · cases uu
          · cases vu
            · subst em
              clear hu3
              go_wp2_with fail
              go_roundg (P.s.length - (j + 1))
              case measure => omega
              case rel => exact ⟨j + 1, by omega, by omega, by go_num, by rw [MS.out]; simp, HI.out.below (two_belowS _ _ _)⟩
            · subst em
              clear hu3
              go_wp2_with fail
              go_roundg (P.s.length - (j + 1))
              case measure => omega
              case rel => exact ⟨j + 1, by omega, by omega, by go_num, by rw [MS.out]; simp, HI.out.below (two_belowS _ _ _)⟩
          · cases vu
            · subst em
              clear hu3
              go_wp2_with fail
              go_roundg (P.s.length - (j + 1))
              case measure => omega
              case rel => exact ⟨j + 1, by omega, by omega, by go_num, by rw [MS.out]; simp, HI.out.below (two_belowS _ _ _)⟩
            · subst em
              obtain ⟨et, en⟩ := hu3 rfl rfl
              subst et
              subst en
              clear hu3
              go_wp2_with fail
              go_roundg (P.s.length - (j + 1))
              case measure => omega
              case rel => exact ⟨j + 1, by omega, by omega, by go_num, by rw [MS.out]; simp, HI.out.below (two_belowS _ _ _)⟩
        · cases uu
          · cases vu
            · have em1 : (um == vm) = false := beq_eq_false_iff_ne.2 em
              have em2 : decide (um = vm) = false := decide_eq_false em
              clear hu3
              go_wp2_with fail
              go_roundg (P.s.length - (j + 1))
              case measure => omega
              case rel => exact ⟨j + 1, by omega, by omega, by go_num, by rw [MS.out]; rw [if_neg em]; first | rfl | go_num | (simp; omega), HI.out.below (two_belowS _ _ _)⟩
            · have em1 : (um == vm) = false := beq_eq_false_iff_ne.2 em
              have em2 : decide (um = vm) = false := decide_eq_false em
              clear hu3
              go_wp2_with fail
              go_roundg (P.s.length - (j + 1))
              case measure => omega
              case rel => exact ⟨j + 1, by omega, by omega, by go_num, by rw [MS.out]; rw [if_neg em]; first | rfl | go_num | (simp; omega), HI.out.below (two_belowS _ _ _)⟩
          · cases vu
            · have em1 : (um == vm) = false := beq_eq_false_iff_ne.2 em
              have em2 : decide (um = vm) = false := decide_eq_false em
              clear hu3
              go_wp2_with fail
              go_roundg (P.s.length - (j + 1))
              case measure => omega
              case rel => exact ⟨j + 1, by omega, by omega, by go_num, by rw [MS.out]; rw [if_neg em]; first | rfl | go_num | (simp; omega), HI.out.below (two_belowS _ _ _)⟩
            · have em1 : (um == vm) = false := beq_eq_false_iff_ne.2 em
              have em2 : decide (um = vm) = false := decide_eq_false em
              obtain ⟨et, en⟩ := hu3 rfl rfl
              subst et
              subst en
              clear hu3
              go_wp2_with fail
              go_roundg (P.s.length - (j + 1))
              case measure => omega
              case rel => exact ⟨j + 1, by omega, by omega, by go_num, by rw [MS.out]; rw [if_neg em]; first | rfl | go_num | (simp; omega), HI.out.below (two_belowS _ _ _)⟩
      · have hje : j = P.s.length := by omega
        subst hje
        have hm1 := MARKS.out P.s.length (by rw [LEN.out]; exact Nat.le_refl _)
        obtain ⟨mc, hmc⟩ : ∃ m, markN R.s P.s P.s.length = m := ⟨_, rfl⟩
        rw [hmc] at hm1 ⊢
        clear hmc MARKS USES RNG
        have p16 : P.hs.length ≤ 16 := by rw [HLN.out, H16.out]; exact Nat.le_refl _
        go_wp2_with fail
        go_loopg [9, 131] P.hs.length (fun g s9 s131 wr => ∃ j : Nat, j ≤ P.hs.length ∧ P.hs.length - j ≤ g ∧ s131 = .int .i64 j ∧ s9 = .int .i64 ((handN R.hs P.hs j : Nat) : Int) ∧ Hid (KeepI w w1.heap.size R P a0 a1 a2 a3 c0 c1 c2 c3 y0 y1 y2 y3 z0 z1 z2 z3 xk xq xr xs xn wr))
        case atStart => exact ⟨0, by omega, by omega, rfl, rfl, HI⟩
        case round =>
          clear HI l0 l1 l2 l3 fl ll m0 fm lm n0 n1 n2 n3 fn ln
          obtain ⟨j, hj, hg, rfl, rfl, HI⟩ := hrel
          obtain ⟨l0, l1, l2, l3, fl, ll⟩ := box4_facts HI.out.r
          obtain ⟨m0, fm, lm⟩ := box5_facts HI.out.x
          obtain ⟨n0, n1, n2, n3, fn, ln⟩ := box4_facts HI.out.y
          by_cases hlt : j < P.hs.length
          · have hlt2 : (j : Int) < (P.hs.length : Int) := by omega
            have hltr : (j : Int) < (R.hs.length : Int) := by rw [← HLN.out]; exact hlt2
            obtain ⟨pb, po, ep, p0, p1⟩ := HI.out.rp.2.1 j hlt
            obtain ⟨rb, ro, er, r0, r1⟩ := HI.out.rl.2.1 j (by rw [← HLN.out]; exact hlt)
            dsimp only at ep er
            subst ep
            subst er
            have plt : pb < wr.heap.size := World.block_lt_of_cell? _ _ p0
            have rlt : rb < wr.heap.size := World.block_lt_of_cell? _ _ r0
            have hh1 := HANDS.out j
            have HS : Hid (handN R.hs P.hs (j + 1) = handN R.hs P.hs j + if P.hs.getD j (0, 0) = R.hs.getD j (0, 0) then 0 else 1) := rfl
            obtain ⟨hc, hhc⟩ : ∃ m, handN R.hs P.hs j = m := ⟨_, rfl⟩
            rw [hhc] at hh1 HS ⊢
            clear hhc
            generalize P.hs.getD j (0, 0) = u at *
            generalize R.hs.getD j (0, 0) = v at *
            obtain ⟨u1, u2⟩ := u
            obtain ⟨v1, v2⟩ := v
            dsimp only at p0 p1 r0 r1
            have hmw : IntKind.i64.wrap ((hc : Int) + 1) = (hc : Int) + 1 := by rw [IntKind.wrap_i64]; omega
            by_cases e1 : u1 = v1
            · by_cases e2 : u2 = v2
              · subst e1
                subst e2
                go_wp2_with fail
                go_big_quiet (fail)
                go_wp2_with fail
                go_roundg (P.hs.length - (j + 1))
                case measure => omega
                case rel => exact ⟨j + 1, by omega, by omega, by go_num, by rw [HS.out]; simp, HI.out.below (belowN' (one_belowS _ _) _)⟩
              · subst e1
                have q1 : (u2 == v2) = false := beq_eq_false_iff_ne.2 e2
                have q2 : decide (u2 = v2) = false := decide_eq_false e2
                go_wp2_with fail
                go_big_quiet (fail)
                go_wp2_with fail
                go_roundg (P.hs.length - (j + 1))
                case measure => omega
                case rel => exact ⟨j + 1, by omega, by omega, by go_num, by rw [HS.out]; rw [if_neg (fun h => e2 (congrArg Prod.snd h))]; first | rfl | go_num | (simp; omega), HI.out.below (belowN' (one_belowS _ _) _)⟩
            · have q1 : (u1 == v1) = false := beq_eq_false_iff_ne.2 e1
              have q2 : decide (u1 = v1) = false := decide_eq_false e1
              go_wp2_with fail
              go_big_quiet (fail)
              go_wp2_with fail
              go_roundg (P.hs.length - (j + 1))
              case measure => omega
              case rel => exact ⟨j + 1, by omega, by omega, by go_num, by rw [HS.out]; rw [if_neg (fun h => e1 (congrArg Prod.fst h))]; first | rfl | go_num | (simp; omega), HI.out.below (belowN' (one_belowS _ _) _)⟩
          · have hje : j = P.hs.length := by omega
            subst hje
            have hh1 := HANDS.out P.hs.length
            obtain ⟨hc, hhc⟩ : ∃ m, handN R.hs P.hs P.hs.length = m := ⟨_, rfl⟩
            rw [hhc] at hh1 ⊢
            clear hhc HANDS
            have d1 : decide ((mc : Int) ≤ 1) = true := decide_eq_true (by omega)
            have d2 : decide ((hc : Int) ≤ 1) = true := decide_eq_true (by omega)
            have CT9 := CT.out wr
            by_cases hk : xk ∈ ([6, 14, 15] : List Int)
            · rw [decide_eq_true hk] at CT9
              have CTH : Hid _ := CT9
              have hkk : Hid (xk = 6 ∨ xk = 14 ∨ xk = 15) := (by simpa using hk : xk = 6 ∨ xk = 14 ∨ xk = 15)
              clear CT9 hk
              go_wp2_with fail
              refine Calls.mono (CTH.out _) ?_
              rintro e w9 ⟨rfl, hw9⟩
              have HI9 : Hid (KeepI w w1.heap.size R P a0 a1 a2 a3 c0 c1 c2 c3 y0 y1 y2 y3 z0 z1 z2 z3 xk xq xr xs xn w9) := by rw [hw9]; exact HI.out.below (one_belowS _ _)
              clear hw9 HI CTH
              clear l0 l1 l2 l3 fl ll m0 fm lm n0 n1 n2 n3 fn ln
              obtain ⟨l0, l1, l2, l3, fl, ll⟩ := box4_facts HI9.out.r
              obtain ⟨m0, fm, lm⟩ := box5_facts HI9.out.x
              obtain ⟨n0, n1, n2, n3, fn, ln⟩ := box4_facts HI9.out.y
              go_wp2_with fail
              refine Calls.mono (DS.out y0 y1 y2 y3 z0 z1 z2 z3 _ HI9.out.rp HI9.out.rl hkk.out) ?_
              rintro e w10 ⟨rfl, hb⟩
              have HB : Hid (Below w.heap.size w w10) := HI9.out.bel.trans (hb.mono HI9.out.bel.size)
              clear hb
              go_wp2_with fail
              go_ret
              exact ⟨rfl, HB.out⟩
            · rw [decide_eq_false hk] at CT9
              have CTH : Hid _ := CT9
              clear CT9 hk
              go_wp2_with fail
              refine Calls.mono (CTH.out _) ?_
              rintro e w9 ⟨rfl, hw9⟩
              have HB : Hid (Below w.heap.size w w9) := by rw [hw9]; exact (HI.out.below (one_belowS _ _)).bel
              clear hw9
              go_wp2_with fail
              go_ret
              exact ⟨rfl, HB.out⟩
  · have t1 : decide (told = 0) = false := decide_eq_false ht
    have t2 : (told == 0) = false := beq_eq_false_iff_ne.2 ht
    have hk := TOLD.out ht
    have CT3 := CT.out w3
    rw [decide_eq_true (show xk ∈ ([6, 14, 15] : List Int) by simp; omega)] at CT3
    have CTH : Hid _ := CT3
    clear CT3
    go_wp2_with fail
    refine Calls.mono (CTH.out _) ?_
    rintro e w4 ⟨rfl, hw4⟩
    have HI4 : Hid (KeepI w w1.heap.size R P a0 a1 a2 a3 c0 c1 c2 c3 y0 y1 y2 y3 z0 z1 z2 z3 xk xq xr xs xn w4) := by rw [hw4]; exact HI3.out.below (one_belowS _ _)
    clear hw4 HI3 CTH
    clear l0 l1 l2 l3 fl ll m0 fm lm n0 n1 n2 n3 fn ln
    obtain ⟨l0, l1, l2, l3, fl, ll⟩ := box4_facts HI4.out.r
    obtain ⟨m0, fm, lm⟩ := box5_facts HI4.out.x
    obtain ⟨n0, n1, n2, n3, fn, ln⟩ := box4_facts HI4.out.y
    go_wp2_with fail
    refine Calls.mono (DG.out y2 z2 _ HI4.out.rp.2.2.1 HI4.out.rl.2.2.1) ?_
    rintro e w5 ⟨rfl, hb⟩
    have HI5 : Hid (KeepI w w1.heap.size R P a0 a1 a2 a3 c0 c1 c2 c3 y0 y1 y2 y3 z0 z1 z2 z3 xk xq xr xs xn w5) := HI4.out.below (hb)
    clear l0 l1 l2 l3 fl ll m0 fm lm n0 n1 n2 n3 fn ln
    obtain ⟨l0, l1, l2, l3, fl, ll⟩ := box4_facts HI5.out.r
    obtain ⟨m0, fm, lm⟩ := box5_facts HI5.out.x
    obtain ⟨n0, n1, n2, n3, fn, ln⟩ := box4_facts HI5.out.y
    clear hb HI4
    go_wp2_with fail
    refine Calls.mono (DT.out y3 z3 _ HI5.out.rp.2.2.2 HI5.out.rl.2.2.2) ?_
    rintro e w6 ⟨rfl, hb⟩
    have HI6 : Hid (KeepI w w1.heap.size R P a0 a1 a2 a3 c0 c1 c2 c3 y0 y1 y2 y3 z0 z1 z2 z3 xk xq xr xs xn w6) := HI5.out.below (hb)
    clear l0 l1 l2 l3 fl ll m0 fm lm n0 n1 n2 n3 fn ln
    obtain ⟨l0, l1, l2, l3, fl, ll⟩ := box4_facts HI6.out.r
    obtain ⟨m0, fm, lm⟩ := box5_facts HI6.out.x
    obtain ⟨n0, n1, n2, n3, fn, ln⟩ := box4_facts HI6.out.y
    clear hb HI5
    go_wp2_with fail
    go_loopg [8, 74] P.s.length (fun g s8 s74 wr => ∃ j : Nat, j ≤ P.s.length ∧ P.s.length - j ≤ g ∧ s74 = .int .i64 j ∧ s8 = .int .i64 ((markN R.s P.s j : Nat) : Int) ∧ Hid (KeepI w w1.heap.size R P a0 a1 a2 a3 c0 c1 c2 c3 y0 y1 y2 y3 z0 z1 z2 z3 xk xq xr xs xn wr))
    case atStart => exact ⟨0, by omega, by omega, rfl, rfl, HI6⟩
    case round =>
      clear HI6
      clear l0 l1 l2 l3 fl ll m0 fm lm n0 n1 n2 n3 fn ln
      obtain ⟨j, hj, hg, rfl, rfl, HI⟩ := hrel
      obtain ⟨l0, l1, l2, l3, fl, ll⟩ := box4_facts HI.out.r
      obtain ⟨m0, fm, lm⟩ := box5_facts HI.out.x
      obtain ⟨n0, n1, n2, n3, fn, ln⟩ := box4_facts HI.out.y
      by_cases hlt : j < P.s.length
      · have hlt2 : (j : Int) < (P.s.length : Int) := by omega
        have hltr : j < R.s.length := by rw [← LEN.out]; exact hlt
        have hltr2 : (j : Int) < (R.s.length : Int) := by omega
        obtain ⟨pb, po, ep, p0, p1, p2, p3, p4, ⟨pka, pkc, p5, _⟩, p6, p7⟩ := HI.out.rp.1 j hlt
        obtain ⟨rb, ro, er, r0, r1, r2, r3, r4, ⟨rka, rkc, r5, _⟩, r6, r7⟩ := HI.out.rl.1 j hltr
        dsimp only at ep er
        subst ep
        subst er
        have plt : pb < wr.heap.size := World.block_lt_of_cell? _ _ p0
        have rlt : rb < wr.heap.size := World.block_lt_of_cell? _ _ r0
        have hm1 := MARKS.out j (by omega)
        have MS : Hid (markN R.s P.s (j + 1) = markN R.s P.s j + if (nd P.s j).m = (nd R.s j).m then 0 else 1) := rfl
        obtain ⟨hu1, hu2, hu3⟩ := USES.out j hltr
        obtain ⟨hr1, hr2⟩ := RNG.out j hltr
        obtain ⟨mc, hmc⟩ : ∃ m, markN R.s P.s j = m := ⟨_, rfl⟩
        rw [hmc] at hm1 MS ⊢
        clear hmc
        generalize nd P.s j = u at *
        generalize nd R.s j = v at *
        obtain ⟨uu, un, ut, um, up, uks, uh, uc⟩ := u
        obtain ⟨vu, vn, vt, vm, vp, vks, vh, vc⟩ := v
        dsimp only at p0 p1 p2 p3 p4 p5 p6 p7 r0 r1 r2 r3 r4 r5 r6 r7 hu1 hu2 hu3 hr1 hr2 MS
        generalize uks.length = ukl at *
        generalize vks.length = vkl at *
        have hw : IntKind.i64.wrap (vn + 1) = vn + 1 := by rw [IntKind.wrap_i64]; omega
        have g1 : decide (un < vn) = false := decide_eq_false (by omega)
        have g2 : decide (vn + 1 < un) = false := decide_eq_false (by omega)
        have hmw : IntKind.i64.wrap ((mc : Int) + 1) = (mc : Int) + 1 := by rw [IntKind.wrap_i64]; omega
        by_cases em : um = vm
        · cases uu
          · cases vu
            · subst em
              clear hu3
              go_wp2_with fail
              go_roundg (P.s.length - (j + 1))
              case measure => omega
              case rel => exact ⟨j + 1, by omega, by omega, by go_num, by rw [MS.out]; simp, HI.out.below (two_belowS _ _ _)⟩
            · subst em
              clear hu3
              go_wp2_with fail
              go_roundg (P.s.length - (j + 1))
              case measure => omega
              case rel => exact ⟨j + 1, by omega, by omega, by go_num, by rw [MS.out]; simp, HI.out.below (two_belowS _ _ _)⟩
          · cases vu
            · subst em
              clear hu3
              go_wp2_with fail
              go_roundg (P.s.length - (j + 1))
              case measure => omega
              case rel => exact ⟨j + 1, by omega, by omega, by go_num, by rw [MS.out]; simp, HI.out.below (two_belowS _ _ _)⟩
            · subst em
              obtain ⟨et, en⟩ := hu3 rfl rfl
              subst et
              subst en
              clear hu3
              go_wp2_with fail
              go_roundg (P.s.length - (j + 1))
              case measure => omega
              case rel => exact ⟨j + 1, by omega, by omega, by go_num, by rw [MS.out]; simp, HI.out.below (two_belowS _ _ _)⟩
        · cases uu
          · cases vu
            · have em1 : (um == vm) = false := beq_eq_false_iff_ne.2 em
              have em2 : decide (um = vm) = false := decide_eq_false em
              clear hu3
              go_wp2_with fail
              go_roundg (P.s.length - (j + 1))
              case measure => omega
              case rel => exact ⟨j + 1, by omega, by omega, by go_num, by rw [MS.out]; rw [if_neg em]; first | rfl | go_num | (simp; omega), HI.out.below (two_belowS _ _ _)⟩
            · have em1 : (um == vm) = false := beq_eq_false_iff_ne.2 em
              have em2 : decide (um = vm) = false := decide_eq_false em
              clear hu3
              go_wp2_with fail
              go_roundg (P.s.length - (j + 1))
              case measure => omega
              case rel => exact ⟨j + 1, by omega, by omega, by go_num, by rw [MS.out]; rw [if_neg em]; first | rfl | go_num | (simp; omega), HI.out.below (two_belowS _ _ _)⟩
          · cases vu
            · have em1 : (um == vm) = false := beq_eq_false_iff_ne.2 em
              have em2 : decide (um = vm) = false := decide_eq_false em
              clear hu3
              go_wp2_with fail
              go_roundg (P.s.length - (j + 1))
              case measure => omega
              case rel => exact ⟨j + 1, by omega, by omega, by go_num, by rw [MS.out]; rw [if_neg em]; first | rfl | go_num | (simp; omega), HI.out.below (two_belowS _ _ _)⟩
            · have em1 : (um == vm) = false := beq_eq_false_iff_ne.2 em
              have em2 : decide (um = vm) = false := decide_eq_false em
              obtain ⟨et, en⟩ := hu3 rfl rfl
              subst et
              subst en
              clear hu3
              go_wp2_with fail
              go_roundg (P.s.length - (j + 1))
              case measure => omega
              case rel => exact ⟨j + 1, by omega, by omega, by go_num, by rw [MS.out]; rw [if_neg em]; first | rfl | go_num | (simp; omega), HI.out.below (two_belowS _ _ _)⟩
      · have hje : j = P.s.length := by omega
        subst hje
        have hm1 := MARKS.out P.s.length (by rw [LEN.out]; exact Nat.le_refl _)
        obtain ⟨mc, hmc⟩ : ∃ m, markN R.s P.s P.s.length = m := ⟨_, rfl⟩
        rw [hmc] at hm1 ⊢
        clear hmc MARKS USES RNG
        have p16 : P.hs.length ≤ 16 := by rw [HLN.out, H16.out]; exact Nat.le_refl _
        go_wp2_with fail
        go_loopg [9, 131] P.hs.length (fun g s9 s131 wr => ∃ j : Nat, j ≤ P.hs.length ∧ P.hs.length - j ≤ g ∧ s131 = .int .i64 j ∧ s9 = .int .i64 ((handN R.hs P.hs j : Nat) : Int) ∧ Hid (KeepI w w1.heap.size R P a0 a1 a2 a3 c0 c1 c2 c3 y0 y1 y2 y3 z0 z1 z2 z3 xk xq xr xs xn wr))
        case atStart => exact ⟨0, by omega, by omega, rfl, rfl, HI⟩
        case round =>
          clear HI l0 l1 l2 l3 fl ll m0 fm lm n0 n1 n2 n3 fn ln
          obtain ⟨j, hj, hg, rfl, rfl, HI⟩ := hrel
          obtain ⟨l0, l1, l2, l3, fl, ll⟩ := box4_facts HI.out.r
          obtain ⟨m0, fm, lm⟩ := box5_facts HI.out.x
          obtain ⟨n0, n1, n2, n3, fn, ln⟩ := box4_facts HI.out.y
          by_cases hlt : j < P.hs.length
          · have hlt2 : (j : Int) < (P.hs.length : Int) := by omega
            have hltr : (j : Int) < (R.hs.length : Int) := by rw [← HLN.out]; exact hlt2
            obtain ⟨pb, po, ep, p0, p1⟩ := HI.out.rp.2.1 j hlt
            obtain ⟨rb, ro, er, r0, r1⟩ := HI.out.rl.2.1 j (by rw [← HLN.out]; exact hlt)
            dsimp only at ep er
            subst ep
            subst er
            have plt : pb < wr.heap.size := World.block_lt_of_cell? _ _ p0
            have rlt : rb < wr.heap.size := World.block_lt_of_cell? _ _ r0
            have hh1 := HANDS.out j
            have HS : Hid (handN R.hs P.hs (j + 1) = handN R.hs P.hs j + if P.hs.getD j (0, 0) = R.hs.getD j (0, 0) then 0 else 1) := rfl
            obtain ⟨hc, hhc⟩ : ∃ m, handN R.hs P.hs j = m := ⟨_, rfl⟩
            rw [hhc] at hh1 HS ⊢
            clear hhc
            generalize P.hs.getD j (0, 0) = u at *
            generalize R.hs.getD j (0, 0) = v at *
            obtain ⟨u1, u2⟩ := u
            obtain ⟨v1, v2⟩ := v
            dsimp only at p0 p1 r0 r1
            have hmw : IntKind.i64.wrap ((hc : Int) + 1) = (hc : Int) + 1 := by rw [IntKind.wrap_i64]; omega
            by_cases e1 : u1 = v1
            · by_cases e2 : u2 = v2
              · subst e1
                subst e2
                go_wp2_with fail
                go_big_quiet (fail)
                go_wp2_with fail
                go_roundg (P.hs.length - (j + 1))
                case measure => omega
                case rel => exact ⟨j + 1, by omega, by omega, by go_num, by rw [HS.out]; simp, HI.out.below (belowN' (one_belowS _ _) _)⟩
              · subst e1
                have q1 : (u2 == v2) = false := beq_eq_false_iff_ne.2 e2
                have q2 : decide (u2 = v2) = false := decide_eq_false e2
                go_wp2_with fail
                go_big_quiet (fail)
                go_wp2_with fail
                go_roundg (P.hs.length - (j + 1))
                case measure => omega
                case rel => exact ⟨j + 1, by omega, by omega, by go_num, by rw [HS.out]; rw [if_neg (fun h => e2 (congrArg Prod.snd h))]; first | rfl | go_num | (simp; omega), HI.out.below (belowN' (one_belowS _ _) _)⟩
            · have q1 : (u1 == v1) = false := beq_eq_false_iff_ne.2 e1
              have q2 : decide (u1 = v1) = false := decide_eq_false e1
              go_wp2_with fail
              go_big_quiet (fail)
              go_wp2_with fail
              go_roundg (P.hs.length - (j + 1))
              case measure => omega
              case rel => exact ⟨j + 1, by omega, by omega, by go_num, by rw [HS.out]; rw [if_neg (fun h => e1 (congrArg Prod.fst h))]; first | rfl | go_num | (simp; omega), HI.out.below (belowN' (one_belowS _ _) _)⟩
          · have hje : j = P.hs.length := by omega
            subst hje
            have hh1 := HANDS.out P.hs.length
            obtain ⟨hc, hhc⟩ : ∃ m, handN R.hs P.hs P.hs.length = m := ⟨_, rfl⟩
            rw [hhc] at hh1 ⊢
            clear hhc HANDS
            have d1 : decide ((mc : Int) ≤ 1) = true := decide_eq_true (by omega)
            have d2 : decide ((hc : Int) ≤ 1) = true := decide_eq_true (by omega)
            have CT9 := CT.out wr
            by_cases hk : xk ∈ ([6, 14, 15] : List Int)
            · rw [decide_eq_true hk] at CT9
              have CTH : Hid _ := CT9
              have hkk : Hid (xk = 6 ∨ xk = 14 ∨ xk = 15) := (by simpa using hk : xk = 6 ∨ xk = 14 ∨ xk = 15)
              clear CT9 hk
              go_wp2_with fail
              refine Calls.mono (CTH.out _) ?_
              rintro e w9 ⟨rfl, hw9⟩
              have HI9 : Hid (KeepI w w1.heap.size R P a0 a1 a2 a3 c0 c1 c2 c3 y0 y1 y2 y3 z0 z1 z2 z3 xk xq xr xs xn w9) := by rw [hw9]; exact HI.out.below (one_belowS _ _)
              clear hw9 HI CTH
              clear l0 l1 l2 l3 fl ll m0 fm lm n0 n1 n2 n3 fn ln
              obtain ⟨l0, l1, l2, l3, fl, ll⟩ := box4_facts HI9.out.r
              obtain ⟨m0, fm, lm⟩ := box5_facts HI9.out.x
              obtain ⟨n0, n1, n2, n3, fn, ln⟩ := box4_facts HI9.out.y
              go_wp2_with fail
              refine Calls.mono (DS.out y0 y1 y2 y3 z0 z1 z2 z3 _ HI9.out.rp HI9.out.rl hkk.out) ?_
              rintro e w10 ⟨rfl, hb⟩
              have HB : Hid (Below w.heap.size w w10) := HI9.out.bel.trans (hb.mono HI9.out.bel.size)
              clear hb
              go_wp2_with fail
              go_ret
              exact ⟨rfl, HB.out⟩
            · rw [decide_eq_false hk] at CT9
              have CTH : Hid _ := CT9
              clear CT9 hk
              go_wp2_with fail
              refine Calls.mono (CTH.out _) ?_
              rintro e w9 ⟨rfl, hw9⟩
              have HB : Hid (Below w.heap.size w w9) := by rw [hw9]; exact (HI.out.below (one_belowS _ _)).bel
              clear hw9
              go_wp2_with fail
              go_ret
              exact ⟨rfl, HB.out⟩
end Go.Proofs.YtgjfmepbphfjoaaGreat
