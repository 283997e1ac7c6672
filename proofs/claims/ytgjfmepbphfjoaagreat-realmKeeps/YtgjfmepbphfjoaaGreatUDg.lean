/-
  RealmNone at whatever arguments.
-/
import Derived.Test.YtgjfmepbphfjoaaGreatUDnCtDwhOwMwMx
import Derived.BigQuiet
import Derived.Deep.RegionHeld3
import Derived.Laws.StructEq
namespace Go.Proofs.YtgjfmepbphfjoaaGreat
open Go.RowKit
set_option linter.unusedVariables false

/-- What stays so, a round after the other. -/
structure NoneI (w : World) (bh : Nat) (h1 h2 : Int) (Q : Rl) (q0 q1 q2 q3 : Option Addr) (e0 e1 e2 e3 : Nat) (wr : World) : Prop where
  bel : Below w.heap.size w wr
  box : wr.heap[w.heap.size]? = some (.cells #[.slice q0 Q.s.length e0, .slice q1 Q.hs.length e1, .slice q2 Q.i.length e2, .slice q3 Q.t.length e3] 31 (0, 0))
  rl : RlAt wr ⟨q0, q1, q2, q3, e0, e1, e2, e3⟩ Q
  ok : rcheckE Q = 0
  hand : wr.heap[bh]? = some (.cells #[.int .i64 h1, .int .i64 h2] 39 (0, 0))
/-- The mark that was set last, if any. -/
def MkI (v : Value) (wr : World) (S : List Nd) (h1 h2 : Int) : Prop := v = .pointer none ∨ ∃ mb M, v = .pointer (some ⟨mb, 0, none⟩) ∧ wr.heap[mb]? = some (.cells #[.int .i64 M] 3 (0, 0)) ∧ MarkI S (h1, h2) M
theorem NoneI.below {w wr wr' : World} {bh : Nat} {h1 h2 : Int} {Q : Rl} {q0 q1 q2 q3 : Option Addr} {e0 e1 e2 e3 : Nat} (I : NoneI w bh h1 h2 Q q0 q1 q2 q3 e0 e1 e2 e3 wr) (hb : Below wr.heap.size wr wr') : NoneI w bh h1 h2 Q q0 q1 q2 q3 e0 e1 e2 e3 wr' :=
  ⟨I.bel.trans (hb.mono I.bel.size), keepB I.box hb, I.rl.below hb, I.ok, keepB I.hand hb⟩
theorem MkI.below {v : Value} {wr wr' : World} {S : List Nd} {h1 h2 : Int} (I : MkI v wr S h1 h2) (hb : Below wr.heap.size wr wr') : MkI v wr' S h1 h2 := by
  rcases I with h | ⟨mb, M, h, hm, hk⟩
  · exact Or.inl h
  · exact Or.inr ⟨mb, M, h, keepB hm hb, hk⟩
theorem slQ {W : World} {b t : Nat} {Q : Rl} {q0 q1 q2 q3 : Option Addr} {e0 e1 e2 e3 : Nat} {f} (h : W.heap[b]? = some (.cells #[.slice q0 Q.s.length e0, .slice q1 Q.hs.length e1, .slice q2 Q.i.length e2, .slice q3 Q.t.length e3] t f)) : SlB W b := sl_box h ⟨_, _, _, rfl⟩ ⟨_, _, _, rfl⟩ ⟨_, _, _, rfl⟩ ⟨_, _, _, rfl⟩
/-- The realm's variable is the new one. -/
theorem NoneI.put {w wr S0 S1 : World} {bh : Nat} {h1 h2 : Int} {Q P : Rl} {q0 q1 q2 q3 y0 y1 y2 y3 : Option Addr} {e0 e1 e2 e3 z0 z1 z2 z3 : Nat} (I : NoneI w bh h1 h2 Q q0 q1 q2 q3 e0 e1 e2 e3 wr) (hb : Below wr.heap.size wr S0) (hY : RlAt S0 ⟨y0, y1, y2, y3, z0, z1, z2, z3⟩ P) (hP : rcheckE P = 0)
    (hS : S1 = (((S0.setCell ⟨w.heap.size, 0, none⟩ (.slice y0 P.s.length z0)).setCell ⟨w.heap.size, 1, none⟩ (.slice y1 P.hs.length z1)).setCell ⟨w.heap.size, 2, none⟩ (.slice y2 P.i.length z2)).setCell ⟨w.heap.size, 3, none⟩ (.slice y3 P.t.length z3)) :
    NoneI w bh h1 h2 P y0 y1 y2 y3 z0 z1 z2 z3 S1 ∧ OffB w.heap.size S0 S1 := by
  have J := I.below hb
  have ho : OffB w.heap.size S0 S1 := by rw [hS]; exact (OffB.refl _ _).set.set.set.set
  refine ⟨⟨?_, ?_, hY.offB (slQ J.box) ho, hP, keepO J.hand ho (box_ne J.box J.hand (by simp))⟩, ho⟩
  · rw [hS]
    exact (((J.bel.setCell (Nat.le_refl _) _).setCell (Nat.le_refl _) _).setCell (Nat.le_refl _) _).setCell (Nat.le_refl _) _
  · rw [hS]
    exact box4_set J.box
theorem MkI.put {v : Value} {S0 S1 : World} {S T : List Nd} {h1 h2 : Int} {b t : Nat} {X : Array Value} (I : MkI v S0 S h1 h2) (hx : S0.heap[b]? = some (.cells X t (0, 0))) (h4 : X.size = 4) (ho : OffB b S0 S1) (hs : ∀ M, MarkI S (h1, h2) M → MarkI T (h1, h2) M) : MkI v S1 T h1 h2 := by
  rcases I with h | ⟨mb, M, h, hm, hk⟩
  · exact Or.inl h
  · exact Or.inr ⟨mb, M, h, keepO hm ho (box_ne hx hm (by rw [h4]; simp)), hs M hk⟩

set_option maxRecDepth 100000 in
set_option maxHeartbeats 1000000 in
theorem realmNone_ok (hN : NewAns) (hD : DoAns) (hC : RCheckAns) (a0 a1 a2 a3 : Option Addr) (c0 c1 c2 c3 : Nat) (R : Rl) (xa : Option Addr) (xc : Nat) (X : List Ac) (k : Int) (w : World) (hR : rcheckE R = 0) (hL : RlAt w ⟨a0, a1, a2, a3, c0, c1, c2, c3⟩ R) (hXc : X.length ≤ xc) (hXm : xc ≤ 9223372036854775807) (hX : ActsAt w xa X) :
    Calls Tryz.prog 3 #[.agg #[.slice a0 R.s.length c0, .slice a1 R.hs.length c1, .slice a2 R.i.length c2, .slice a3 R.t.length c3], .slice xa X.length xc, .int .i64 k] w fun e w' => e = .returned (.bool true) ∧ Below w.heap.size w w' := by
  have DO : Hid HousedOk := housed_ok hN hD
  have DC : Hid (∀ W, RlAt W ⟨a0, a1, a2, a3, c0, c1, c2, c3⟩ R → Calls Tryz.prog 7 #[.agg #[.slice a0 R.s.length c0, .slice a1 R.hs.length c1, .slice a2 R.i.length c2, .slice a3 R.t.length c3]] W fun e w' => e = .returned (.int .i64 0) ∧ Below W.heap.size W w') := fun W hW => by
    have h := hC ⟨a0, a1, a2, a3, c0, c1, c2, c3⟩ R W (big_right hR) hW
    rw [hR] at h
    exact h
  obtain ⟨p, hp, hat⟩ := at_inD k 16 (by omega) (by omega)
  have AT : Hid (∀ w : World, Calls Tryz.prog 8 #[.int .i64 k, .int .i64 16] w fun e w' => e = .returned (.int .i64 (p : Int)) ∧ w' = w) := hat
  have DD : Hid (∀ (Q : Rl) (x : Ac) (b0 b1 b2 b3 : Option Addr) (d0 d1 d2 d3 : Nat) (W : World), rcheckE Q = 0 → RlAt W ⟨b0, b1, b2, b3, d0, d1, d2, d3⟩ Q → _) := fun Q x b0 b1 b2 b3 d0 d1 d2 d3 W hQ hW => do_at hD (big_right hQ) (do_eq (x := x) rfl) b0 b1 b2 b3 d0 d1 d2 d3 W hW
  obtain ⟨_, hl16, _, _⟩ := rcheck_parts hR
  obtain ⟨hb0, ho0, ea1, ch0, ch1⟩ := hL.2.1 p (by rw [hl16]; exact hp)
  dsimp only at ea1
  have HL : Hid (RlAt w ⟨a0, a1, a2, a3, c0, c1, c2, c3⟩ R) := hL
  have HX : Hid (ActsAt w xa X) := hX
  have HR : Hid (rcheckE R = 0) := hR
  subst ea1
  clear hN hD hC hL hX hat hR
  have hp2 : (p : Int) < 16 := by omega
  have hlen : (p : Int) < (R.hs.length : Int) := by omega
  have hb0lt : hb0 < w.heap.size := World.block_lt_of_cell? _ _ ch0
  obtain ⟨h1, hh1⟩ : ∃ z, (R.hs.getD p (0, 0)).1 = z := ⟨_, rfl⟩
  obtain ⟨h2, hh2⟩ : ∃ z, (R.hs.getD p (0, 0)).2 = z := ⟨_, rfl⟩
  rw [hh1] at ch0
  rw [hh2] at ch1
  clear hh1 hh2 hl16
  obtain ⟨len, hlX⟩ : ∃ n, X.length = n := ⟨_, rfl⟩
  have HLX : Hid (X.length = len) := hlX
  rw [hlX] at hXc ⊢
  clear hlX
  go_enter Tryz.func3, Tryz.ntmps3
  go_wp2_with fail
  refine Calls.mono (DO.out _) ?_
  rintro e w1 ⟨rfl, hb⟩
  have HB1 : Hid (Below w.heap.size w w1) := (one_belowS w _).trans (hb.mono (by simp))
  have hX0 : w1.heap[w.heap.size]? = some (.cells #[.slice a0 R.s.length c0, .slice (some ⟨hb0, ho0, none⟩) R.hs.length c1, .slice a2 R.i.length c2, .slice a3 R.t.length c3] 31 (0, 0)) := (hb.block _ (by simp)).trans (box4_new _ _ _ _ _ _)
  have HX1 : Hid _ := hX0
  obtain ⟨l0, l1, l2, l3, fz, lt⟩ := box4_facts hX0
  clear hb hX0
  go_wp2_with fail
  refine Calls.mono (DC.out _ (HL.out.below HB1.out)) ?_
  rintro e w2 ⟨rfl, hb⟩
  have HB2 : Hid (Below w.heap.size w w2) := HB1.out.trans (hb.mono HB1.out.size)
  have HX2 : Hid _ := (hb.block _ lt).trans HX1.out
  clear l0 l1 l2 l3 fz lt HX1
  obtain ⟨l0, l1, l2, l3, fz, lt⟩ := box4_facts HX2.out
  clear hb
  go_wp2_with fail
  refine Calls.mono (AT.out _) ?_
  rintro e w3 ⟨rfl, hw3⟩
  have hw4 := hw3.symm
  clear hw3
  subst hw4
  have k0 := keepC ch0 HB2.out
  have k1 := keepC ch1 HB2.out
  clear ch0 ch1
  go_wp2_with fail
  obtain ⟨M, hM, hM1, hM2⟩ : ∃ M : Nat, min (len : Int) 30 = (M : Int) ∧ M ≤ len ∧ M ≤ 30 := ⟨min len 30, by omega, by omega, by omega⟩
  rw [hM, show max (M : Int) 0 = (M : Int) from by omega, Int.toNat_natCast]
  have HI0 : Hid (NoneI w w2.heap.size h1 h2 R a0 (some ⟨hb0, ho0, none⟩) a2 a3 c0 c1 c2 c3 (w2.alloc (.cells #[.int .i64 h1, .int .i64 h2] 39))) := ⟨HB2.out.trans ((one_belowS w2 _).mono HB2.out.size), keepB HX2.out (one_belowS w2 _), HL.out.below (HB2.out.trans ((one_belowS w2 _).mono HB2.out.size)), HR.out, box2_new _ _ _ _⟩
  have HM0 : Hid (MkI (.pointer none) (w2.alloc (.cells #[.int .i64 h1, .int .i64 h2] 39)) R.s h1 h2) := Or.inl rfl
  clear l0 l1 l2 l3 fz k0 k1 HX2 HB1 HR hlen hb0lt DC DO AT HL
  obtain ⟨bh, hbh⟩ : ∃ b, w2.heap.size = b := ⟨_, rfl⟩
  rw [hbh] at HI0 lt ⊢
  clear hM HB2
  go_loopg [7, 39] M (fun g s7 s39 wr => ∃ (i : Nat) (Q : Rl) (q0 q1 q2 q3 : Option Addr) (e0 e1 e2 e3 : Nat), i ≤ M ∧ M - i ≤ g ∧ s39 = .int .i64 i ∧ Hid (NoneI w bh h1 h2 Q q0 q1 q2 q3 e0 e1 e2 e3 wr) ∧ Hid (MkI s7 wr Q.s h1 h2))
  case atStart => exact ⟨0, R, _, _, _, _, _, _, _, _, by omega, by omega, rfl, HI0, HM0⟩
  case round =>
    clear HI0 HM0
    obtain ⟨i, Q, q0, q1, q2, q3, e0, e1, e2, e3, hi, hg, rfl, HI, HM⟩ := hrel
    by_cases hlt : i < M
    · have hlt2 : (i : Int) < (M : Int) := by omega
      obtain ⟨xb, xo, exa, x0, x1, x2, x3, x4⟩ := (HX.out.below HI.out.bel) i (by rw [HLX.out]; omega)
      obtain ⟨⟨xk, xq, xr, xs, xn⟩, hx⟩ : ∃ x, ac X i = x := ⟨_, rfl⟩
      rw [hx] at x0 x1 x2 x3 x4
      dsimp only at x0 x1 x2 x3 x4
      clear hx
      subst exa
      obtain ⟨l0, l1, l2, l3, fz, lt0⟩ := box4_facts HI.out.box
      obtain ⟨k0, k1, lth⟩ := box2_facts HI.out.hand
      have xlt : xb < wr.heap.size := World.block_lt_of_cell? _ _ x0
      have DQ := DD.out Q ⟨xk, xq, xr, xs, xn⟩ q0 q1 q2 q3 e0 e1 e2 e3
      dsimp only at DQ
      have DQH : Hid _ := DQ
      clear DQ
      have KP : Hid ((doF Q ⟨xk, xq, xr, xs, xn⟩).e = 0 → Kept Q ⟨xk, xq, xr, xs, xn⟩ (doF Q ⟨xk, xq, xr, xs, xn⟩).r (doF Q ⟨xk, xq, xr, xs, xn⟩).o ∧ rcheckE (doF Q ⟨xk, xq, xr, xs, xn⟩).r = 0) := fun h => (do_kept h).2
      generalize (doF Q ⟨xk, xq, xr, xs, xn⟩).e = E at *
      generalize (doF Q ⟨xk, xq, xr, xs, xn⟩).r = P at *
      generalize (doF Q ⟨xk, xq, xr, xs, xn⟩).o = told at *
      go_wp2_with fail
      refine Calls.mono (DQH.out _ HI.out.ok (HI.out.rl.below (one_belowS _ _))) ?_
      rintro e w3 ⟨y0, y1, y2, y3, z0, z1, z2, z3, rfl, hb, hY⟩
      have HY : Hid (RlAt w3 ⟨y0, y1, y2, y3, z0, z1, z2, z3⟩ P) := hY
      have HB3 : Hid (Below wr.heap.size wr w3) := (one_belowS wr _).trans (hb.mono (by simp))
      have m0 := keepC (alloc_cell wr #[.int .i64 xk, .int .i64 xq, .int .i64 xr, .int .i64 xs, .int .i64 xn] 41 0 rfl) hb
      have m1 := keepC (alloc_cell wr #[.int .i64 xk, .int .i64 xq, .int .i64 xr, .int .i64 xs, .int .i64 xn] 41 1 rfl) hb
      have m4 := keepC (alloc_cell wr #[.int .i64 xk, .int .i64 xq, .int .i64 xr, .int .i64 xs, .int .i64 xn] 41 4 rfl) hb
      have mlt : wr.heap.size < w3.heap.size := World.block_lt_of_cell? _ _ m0
      have HI3 : Hid (NoneI w bh h1 h2 Q q0 q1 q2 q3 e0 e1 e2 e3 w3) := HI.out.below HB3.out
      have HM3 : Hid _ := HM.out.below HB3.out
      clear hb hY DQH l0 l1 l2 l3 fz lt0 k0 k1 lth x0 x1 x2 x3 x4 xlt HI HM
      obtain ⟨l0, l1, l2, l3, fz, lt0⟩ := box4_facts HI3.out.box
      obtain ⟨k0, k1, lth⟩ := box2_facts HI3.out.hand
      by_cases hE : E = 0
      · subst hE
        obtain ⟨K, hP⟩ := KP.out rfl
        have HK : Hid _ := K
        have HP : Hid (rcheckE P = 0) := hP
        have ha := K.a
        dsimp only [isH] at ha
        obtain ⟨xp, rfl⟩ : ∃ n : Nat, xq = n := ⟨xq.toNat, by omega⟩
        obtain ⟨_, hl16, _, _⟩ := rcheck_parts HI3.out.ok
        obtain ⟨gb, go, eq1, g0, g1⟩ := HI3.out.rl.2.1 xp (by omega)
        dsimp only at eq1
        subst eq1
        have hxp : (xp : Int) < (Q.hs.length : Int) := by omega
        have hxp2 : (xp : Int) < 16 := by omega
        have hd0 : hd Q (xp : Int) = Q.hs.getD xp (0, 0) := by unfold hd; rw [Int.toNat_natCast]
        obtain ⟨⟨o1, o2⟩, ho⟩ : ∃ z, Q.hs.getD xp (0, 0) = z := ⟨_, rfl⟩
        rw [ho] at g0 g1 hd0
        dsimp only at g0 g1
        have HD : Hid (hd Q (xp : Int) = (o1, o2)) := hd0
        have glt : gb < w3.heap.size := World.block_lt_of_cell? _ _ g0
        have hne0 := (slQ HI3.out.box).ne g0 (fun _ _ _ h => by cases h)
        clear hP KP K ha hl16 hd0 ho
        have HF : Hid (∀ (W : World), NdsAt W y0 P.s → _) := fun W hW => find_ans P.s h1 h2 y0 z0 W (rcheck_parts HP.out).1 hW
        by_cases e1 : h1 = o1
        · by_cases e2 : h2 = o2
          · subst e1
            subst e2
            by_cases n5 : 5 = xk
            · subst n5
              have HNEW : Hid (MarkI P.s (h1, h2) xn) := by
                have h := MarkI.new HK.out HD.out (Or.inl rfl)
                rw [if_neg (show ¬ (5 : Int) = 11 by decide)] at h
                exact h
              clear HK HD
              have q1 : wr.heap.size < w3.heap.size + 1 := by omega
              have q2 : wr.heap.size < w3.heap.size + 1 + 1 := by omega
              have q3 : w.heap.size < w3.heap.size + 1 := by omega
              have q4 : w.heap.size < w3.heap.size + 1 + 1 := by omega
              have q5 : bh < w3.heap.size + 1 := by omega
              have q6 : bh < w3.heap.size + 1 + 1 := by omega
              go_wp2_with fail
              obtain ⟨J, hoff⟩ := HI3.out.put (S1 := ((((w3.setCell ⟨w.heap.size, 0, none⟩ (.slice y0 P.s.length z0)).setCell ⟨w.heap.size, 1, none⟩ (.slice y1 P.hs.length z1)).setCell ⟨w.heap.size, 2, none⟩ (.slice y2 P.i.length z2)).setCell ⟨w.heap.size, 3, none⟩ (.slice y3 P.t.length z3))) (Below.refl _ _) HY.out HP.out rfl
              have hbS : Below ((((w3.setCell ⟨w.heap.size, 0, none⟩ (.slice y0 P.s.length z0)).setCell ⟨w.heap.size, 1, none⟩ (.slice y1 P.hs.length z1)).setCell ⟨w.heap.size, 2, none⟩ (.slice y2 P.i.length z2)).setCell ⟨w.heap.size, 3, none⟩ (.slice y3 P.t.length z3)).heap.size ((((w3.setCell ⟨w.heap.size, 0, none⟩ (.slice y0 P.s.length z0)).setCell ⟨w.heap.size, 1, none⟩ (.slice y1 P.hs.length z1)).setCell ⟨w.heap.size, 2, none⟩ (.slice y2 P.i.length z2)).setCell ⟨w.heap.size, 3, none⟩ (.slice y3 P.t.length z3)) (((((((w3.setCell ⟨w.heap.size, 0, none⟩ (.slice y0 P.s.length z0)).setCell ⟨w.heap.size, 1, none⟩ (.slice y1 P.hs.length z1)).setCell ⟨w.heap.size, 2, none⟩ (.slice y2 P.i.length z2)).setCell ⟨w.heap.size, 3, none⟩ (.slice y3 P.t.length z3)).alloc (.cells #[.slice y0 P.s.length z0, .slice y1 P.hs.length z1, .slice y2 P.i.length z2, .slice y3 P.t.length z3] 31)).alloc (.cells #[.int .i64 h1, .int .i64 h2] 39)).alloc (.cells #[.int .i64 xn] 3)) := (two_belowS _ _ _).trans ((one_belowS _ _).mono (by simp; omega))
              have HJ : Hid (NoneI w bh h1 h2 P y0 y1 y2 y3 z0 z1 z2 z3 (((((((w3.setCell ⟨w.heap.size, 0, none⟩ (.slice y0 P.s.length z0)).setCell ⟨w.heap.size, 1, none⟩ (.slice y1 P.hs.length z1)).setCell ⟨w.heap.size, 2, none⟩ (.slice y2 P.i.length z2)).setCell ⟨w.heap.size, 3, none⟩ (.slice y3 P.t.length z3)).alloc (.cells #[.slice y0 P.s.length z0, .slice y1 P.hs.length z1, .slice y2 P.i.length z2, .slice y3 P.t.length z3] 31)).alloc (.cells #[.int .i64 h1, .int .i64 h2] 39)).alloc (.cells #[.int .i64 xn] 3))) := J.below hbS
              have HMJ : Hid (MkI (.pointer (some ⟨w3.heap.size + 1 + 1, 0, none⟩)) (((((((w3.setCell ⟨w.heap.size, 0, none⟩ (.slice y0 P.s.length z0)).setCell ⟨w.heap.size, 1, none⟩ (.slice y1 P.hs.length z1)).setCell ⟨w.heap.size, 2, none⟩ (.slice y2 P.i.length z2)).setCell ⟨w.heap.size, 3, none⟩ (.slice y3 P.t.length z3)).alloc (.cells #[.slice y0 P.s.length z0, .slice y1 P.hs.length z1, .slice y2 P.i.length z2, .slice y3 P.t.length z3] 31)).alloc (.cells #[.int .i64 h1, .int .i64 h2] 39)).alloc (.cells #[.int .i64 xn] 3)) P.s h1 h2) := Or.inr ⟨_, _, rfl, by simpa using heap_alloc_new ((((((w3.setCell ⟨w.heap.size, 0, none⟩ (.slice y0 P.s.length z0)).setCell ⟨w.heap.size, 1, none⟩ (.slice y1 P.hs.length z1)).setCell ⟨w.heap.size, 2, none⟩ (.slice y2 P.i.length z2)).setCell ⟨w.heap.size, 3, none⟩ (.slice y3 P.t.length z3)).alloc (.cells #[.slice y0 P.s.length z0, .slice y1 P.hs.length z1, .slice y2 P.i.length z2, .slice y3 P.t.length z3] 31)).alloc (.cells #[.int .i64 h1, .int .i64 h2] 39)) (.cells #[.int .i64 xn] 3), HNEW.out⟩
              clear J hoff hbS
              refine Calls.mono (HF.out _ HJ.out.rl.1) ?_
              rintro e w4 ⟨nx, ka, kl, kc, rfl, hb, hx0, hx1⟩
              have HJ4 : Hid (NoneI w bh h1 h2 P y0 y1 y2 y3 z0 z1 z2 z3 w4) := HJ.out.below hb
              have HM4 : Hid _ := MkI.below HMJ.out hb
              clear hb HJ HMJ HF l0 l1 l2 l3 fz lt0 k0 k1 lth m0 m1 m4 mlt g0 g1 glt
              rcases HM4.out with h | ⟨mb, mm, h, hmb, hk⟩
              · cases h
              · obtain rfl : mb = w3.heap.size + 1 + 1 := by cases h; rfl
                clear h
                have cm : w4.cell? ⟨w3.heap.size + 1 + 1, 0, none⟩ = some (.int .i64 mm) := box_cell hmb
                have mblt : w3.heap.size + 1 + 1 < w4.heap.size := box_lt hmb
                clear hmb
                by_cases hf : findE P.s h1 h2 = 0
                · have hnx := hx0 hf
                  have hmm := hk.find hf
                  rw [← hnx] at hmm
                  rw [hf]
                  clear hx0 hx1 hf hk hnx
                  obtain ⟨nu, nn, nt, nm, np, nks, nh, nc⟩ := nx
                  dsimp only at hmm
                  subst hmm
                  go_wp2_with fail
                  go_big_quiet (fail)
                  go_wp2_with fail
                  go_roundg (M - (i + 1))
                  case measure => omega
                  case rel => exact ⟨i + 1, P, y0, y1, y2, y3, z0, z1, z2, z3, by omega, by omega, by go_num, HJ4.out.below (belowN' (one_belowS _ _) _), MkI.below HM4.out (belowN' (one_belowS _ _) _)⟩
                · clear hx0 hx1 hk
                  generalize findE P.s h1 h2 = E2 at *
                  have hf2 : decide (E2 = 0) = false := decide_eq_false hf
                  have hf3 : (E2 == 0) = false := beq_eq_false_iff_ne.2 hf
                  clear hf
                  go_wp2_with fail
                  go_big_quiet (fail)
                  go_wp2_with fail
                  go_roundg (M - (i + 1))
                  case measure => omega
                  case rel => exact ⟨i + 1, P, y0, y1, y2, y3, z0, z1, z2, z3, by omega, by omega, by go_num, HJ4.out.below (belowN' (one_belowS _ _) _), MkI.below HM4.out (belowN' (one_belowS _ _) _)⟩
            · by_cases n11 : 11 = xk
              · subst n11
                have hin : 0 ≤ xn ∧ xn < Q.i.length := by
                  obtain ⟨_, _, _, _, _, h, _⟩ := HK.out.mark (Or.inr rfl)
                  exact h rfl
                obtain ⟨xm, rfl⟩ : ∃ n : Nat, xn = n := ⟨xn.toNat, by omega⟩
                have hxm : (xm : Int) < (Q.i.length : Int) := hin.2
                obtain ⟨ib, io, eq2, i0, ika, ikc, i1, _⟩ := HI3.out.rl.2.2.1 xm (by omega)
                dsimp only at eq2
                subst eq2
                have ilt : ib < w3.heap.size := World.block_lt_of_cell? _ _ i0
                have ilt1 : ib < w3.heap.size + 1 := by omega
                have ilt2 : ib < w3.heap.size + 1 + 1 := by omega
                have hne1 := (slQ HI3.out.box).ne i0 (fun _ _ _ h => by cases h)
                have HNEW : Hid (MarkI P.s (h1, h2) (cl Q.i xm).n) := by
                  have h := MarkI.new HK.out HD.out (Or.inr rfl)
                  rw [if_pos rfl] at h
                  exact h
                generalize (cl Q.i xm).n = cn at *
                clear HK HD hin i1
                have q1 : wr.heap.size < w3.heap.size + 1 := by omega
                have q2 : wr.heap.size < w3.heap.size + 1 + 1 := by omega
                have q3 : w.heap.size < w3.heap.size + 1 := by omega
                have q4 : w.heap.size < w3.heap.size + 1 + 1 := by omega
                have q5 : bh < w3.heap.size + 1 := by omega
                have q6 : bh < w3.heap.size + 1 + 1 := by omega
                go_wp2_with fail
                obtain ⟨J, hoff⟩ := HI3.out.put (S1 := ((((w3.setCell ⟨w.heap.size, 0, none⟩ (.slice y0 P.s.length z0)).setCell ⟨w.heap.size, 1, none⟩ (.slice y1 P.hs.length z1)).setCell ⟨w.heap.size, 2, none⟩ (.slice y2 P.i.length z2)).setCell ⟨w.heap.size, 3, none⟩ (.slice y3 P.t.length z3))) (Below.refl _ _) HY.out HP.out rfl
                have hbS : Below ((((w3.setCell ⟨w.heap.size, 0, none⟩ (.slice y0 P.s.length z0)).setCell ⟨w.heap.size, 1, none⟩ (.slice y1 P.hs.length z1)).setCell ⟨w.heap.size, 2, none⟩ (.slice y2 P.i.length z2)).setCell ⟨w.heap.size, 3, none⟩ (.slice y3 P.t.length z3)).heap.size ((((w3.setCell ⟨w.heap.size, 0, none⟩ (.slice y0 P.s.length z0)).setCell ⟨w.heap.size, 1, none⟩ (.slice y1 P.hs.length z1)).setCell ⟨w.heap.size, 2, none⟩ (.slice y2 P.i.length z2)).setCell ⟨w.heap.size, 3, none⟩ (.slice y3 P.t.length z3)) (((((((w3.setCell ⟨w.heap.size, 0, none⟩ (.slice y0 P.s.length z0)).setCell ⟨w.heap.size, 1, none⟩ (.slice y1 P.hs.length z1)).setCell ⟨w.heap.size, 2, none⟩ (.slice y2 P.i.length z2)).setCell ⟨w.heap.size, 3, none⟩ (.slice y3 P.t.length z3)).alloc (.cells #[.slice y0 P.s.length z0, .slice y1 P.hs.length z1, .slice y2 P.i.length z2, .slice y3 P.t.length z3] 31)).alloc (.cells #[.int .i64 h1, .int .i64 h2] 39)).alloc (.cells #[.int .i64 cn] 3)) := (two_belowS _ _ _).trans ((one_belowS _ _).mono (by simp; omega))
                have HJ : Hid (NoneI w bh h1 h2 P y0 y1 y2 y3 z0 z1 z2 z3 (((((((w3.setCell ⟨w.heap.size, 0, none⟩ (.slice y0 P.s.length z0)).setCell ⟨w.heap.size, 1, none⟩ (.slice y1 P.hs.length z1)).setCell ⟨w.heap.size, 2, none⟩ (.slice y2 P.i.length z2)).setCell ⟨w.heap.size, 3, none⟩ (.slice y3 P.t.length z3)).alloc (.cells #[.slice y0 P.s.length z0, .slice y1 P.hs.length z1, .slice y2 P.i.length z2, .slice y3 P.t.length z3] 31)).alloc (.cells #[.int .i64 h1, .int .i64 h2] 39)).alloc (.cells #[.int .i64 cn] 3))) := J.below hbS
                have HMJ : Hid (MkI (.pointer (some ⟨w3.heap.size + 1 + 1, 0, none⟩)) (((((((w3.setCell ⟨w.heap.size, 0, none⟩ (.slice y0 P.s.length z0)).setCell ⟨w.heap.size, 1, none⟩ (.slice y1 P.hs.length z1)).setCell ⟨w.heap.size, 2, none⟩ (.slice y2 P.i.length z2)).setCell ⟨w.heap.size, 3, none⟩ (.slice y3 P.t.length z3)).alloc (.cells #[.slice y0 P.s.length z0, .slice y1 P.hs.length z1, .slice y2 P.i.length z2, .slice y3 P.t.length z3] 31)).alloc (.cells #[.int .i64 h1, .int .i64 h2] 39)).alloc (.cells #[.int .i64 cn] 3)) P.s h1 h2) := Or.inr ⟨_, _, rfl, by simpa using heap_alloc_new ((((((w3.setCell ⟨w.heap.size, 0, none⟩ (.slice y0 P.s.length z0)).setCell ⟨w.heap.size, 1, none⟩ (.slice y1 P.hs.length z1)).setCell ⟨w.heap.size, 2, none⟩ (.slice y2 P.i.length z2)).setCell ⟨w.heap.size, 3, none⟩ (.slice y3 P.t.length z3)).alloc (.cells #[.slice y0 P.s.length z0, .slice y1 P.hs.length z1, .slice y2 P.i.length z2, .slice y3 P.t.length z3] 31)).alloc (.cells #[.int .i64 h1, .int .i64 h2] 39)) (.cells #[.int .i64 cn] 3), HNEW.out⟩
                clear J hoff hbS
                refine Calls.mono (HF.out _ HJ.out.rl.1) ?_
                rintro e w4 ⟨nx, ka, kl, kc, rfl, hb, hx0, hx1⟩
                have HJ4 : Hid (NoneI w bh h1 h2 P y0 y1 y2 y3 z0 z1 z2 z3 w4) := HJ.out.below hb
                have HM4 : Hid _ := MkI.below HMJ.out hb
                clear hb HJ HMJ HF l0 l1 l2 l3 fz lt0 k0 k1 lth m0 m1 m4 mlt g0 g1 glt
                rcases HM4.out with h | ⟨mb, mm, h, hmb, hk⟩
                · cases h
                · obtain rfl : mb = w3.heap.size + 1 + 1 := by cases h; rfl
                  clear h
                  have cm : w4.cell? ⟨w3.heap.size + 1 + 1, 0, none⟩ = some (.int .i64 mm) := box_cell hmb
                  have mblt : w3.heap.size + 1 + 1 < w4.heap.size := box_lt hmb
                  clear hmb
                  by_cases hf : findE P.s h1 h2 = 0
                  · have hnx := hx0 hf
                    have hmm := hk.find hf
                    rw [← hnx] at hmm
                    rw [hf]
                    clear hx0 hx1 hf hk hnx
                    obtain ⟨nu, nn, nt, nm, np, nks, nh, nc⟩ := nx
                    dsimp only at hmm
                    subst hmm
                    go_wp2_with fail
                    go_big_quiet (fail)
                    go_wp2_with fail
                    go_roundg (M - (i + 1))
                    case measure => omega
                    case rel => exact ⟨i + 1, P, y0, y1, y2, y3, z0, z1, z2, z3, by omega, by omega, by go_num, HJ4.out.below (belowN' (one_belowS _ _) _), MkI.below HM4.out (belowN' (one_belowS _ _) _)⟩
                  · clear hx0 hx1 hk
                    generalize findE P.s h1 h2 = E2 at *
                    have hf2 : decide (E2 = 0) = false := decide_eq_false hf
                    have hf3 : (E2 == 0) = false := beq_eq_false_iff_ne.2 hf
                    clear hf
                    go_wp2_with fail
                    go_big_quiet (fail)
                    go_wp2_with fail
                    go_roundg (M - (i + 1))
                    case measure => omega
                    case rel => exact ⟨i + 1, P, y0, y1, y2, y3, z0, z1, z2, z3, by omega, by omega, by go_num, HJ4.out.below (belowN' (one_belowS _ _) _), MkI.below HM4.out (belowN' (one_belowS _ _) _)⟩
              · clear DD
                have STEP : Hid (∀ m, MarkI Q.s (h1, h2) m → MarkI P.s (h1, h2) m) := fun m h => h.step HK.out (fun hh => by rcases hh.2 with h | h; exact n5 h.symm; exact n11 h.symm)
                clear HK HD
                have n1 : (xk == 5) = false := beq_eq_false_iff_ne.2 (fun e => n5 e.symm)
                have n2 : decide (xk = 5) = false := decide_eq_false (fun e => n5 e.symm)
                have n3 : (xk == 11) = false := beq_eq_false_iff_ne.2 (fun e => n11 e.symm)
                have n4 : decide (xk = 11) = false := decide_eq_false (fun e => n11 e.symm)
                go_wp2_with fail
                obtain ⟨J, hoff⟩ := HI3.out.put (S1 := ((((w3.setCell ⟨w.heap.size, 0, none⟩ (.slice y0 P.s.length z0)).setCell ⟨w.heap.size, 1, none⟩ (.slice y1 P.hs.length z1)).setCell ⟨w.heap.size, 2, none⟩ (.slice y2 P.i.length z2)).setCell ⟨w.heap.size, 3, none⟩ (.slice y3 P.t.length z3))) (Below.refl _ _) HY.out HP.out rfl
                have hbS : Below ((((w3.setCell ⟨w.heap.size, 0, none⟩ (.slice y0 P.s.length z0)).setCell ⟨w.heap.size, 1, none⟩ (.slice y1 P.hs.length z1)).setCell ⟨w.heap.size, 2, none⟩ (.slice y2 P.i.length z2)).setCell ⟨w.heap.size, 3, none⟩ (.slice y3 P.t.length z3)).heap.size ((((w3.setCell ⟨w.heap.size, 0, none⟩ (.slice y0 P.s.length z0)).setCell ⟨w.heap.size, 1, none⟩ (.slice y1 P.hs.length z1)).setCell ⟨w.heap.size, 2, none⟩ (.slice y2 P.i.length z2)).setCell ⟨w.heap.size, 3, none⟩ (.slice y3 P.t.length z3)) ((((((w3.setCell ⟨w.heap.size, 0, none⟩ (.slice y0 P.s.length z0)).setCell ⟨w.heap.size, 1, none⟩ (.slice y1 P.hs.length z1)).setCell ⟨w.heap.size, 2, none⟩ (.slice y2 P.i.length z2)).setCell ⟨w.heap.size, 3, none⟩ (.slice y3 P.t.length z3)).alloc (.cells #[.slice y0 P.s.length z0, .slice y1 P.hs.length z1, .slice y2 P.i.length z2, .slice y3 P.t.length z3] 31)).alloc (.cells #[.int .i64 h1, .int .i64 h2] 39)) := two_belowS _ _ _
                have HJ : Hid (NoneI w bh h1 h2 P y0 y1 y2 y3 z0 z1 z2 z3 ((((((w3.setCell ⟨w.heap.size, 0, none⟩ (.slice y0 P.s.length z0)).setCell ⟨w.heap.size, 1, none⟩ (.slice y1 P.hs.length z1)).setCell ⟨w.heap.size, 2, none⟩ (.slice y2 P.i.length z2)).setCell ⟨w.heap.size, 3, none⟩ (.slice y3 P.t.length z3)).alloc (.cells #[.slice y0 P.s.length z0, .slice y1 P.hs.length z1, .slice y2 P.i.length z2, .slice y3 P.t.length z3] 31)).alloc (.cells #[.int .i64 h1, .int .i64 h2] 39))) := J.below hbS
                have HMJ : Hid _ := MkI.below (MkI.put HM3.out HI3.out.box rfl hoff STEP.out) hbS
                clear J hoff hbS
                refine Calls.mono (HF.out _ HJ.out.rl.1) ?_
                rintro e w4 ⟨nx, ka, kl, kc, rfl, hb, hx0, hx1⟩
                have HJ4 : Hid (NoneI w bh h1 h2 P y0 y1 y2 y3 z0 z1 z2 z3 w4) := HJ.out.below hb
                have HM4 : Hid _ := MkI.below HMJ.out hb
                clear hb HJ HMJ HF l0 l1 l2 l3 fz lt0 k0 k1 lth m0 m1 m4 mlt g0 g1 glt
                rcases HM4.out with h | ⟨mb, mm, h, hmb, hk⟩
                · subst h
                  by_cases hf : findE P.s h1 h2 = 0
                  · rw [hf]
                    clear hx0 hx1 hf
                    go_wp2_with fail
                    go_big_quiet (fail)
                    go_wp2_with fail
                    go_roundg (M - (i + 1))
                    case measure => omega
                    case rel => exact ⟨i + 1, P, y0, y1, y2, y3, z0, z1, z2, z3, by omega, by omega, by go_num, HJ4.out.below (belowN' (one_belowS _ _) _), Or.inl rfl⟩
                  · clear hx0 hx1
                    generalize findE P.s h1 h2 = E2 at *
                    have hf2 : decide (E2 = 0) = false := decide_eq_false hf
                    have hf3 : (E2 == 0) = false := beq_eq_false_iff_ne.2 hf
                    clear hf
                    go_wp2_with fail
                    go_big_quiet (fail)
                    go_wp2_with fail
                    go_roundg (M - (i + 1))
                    case measure => omega
                    case rel => exact ⟨i + 1, P, y0, y1, y2, y3, z0, z1, z2, z3, by omega, by omega, by go_num, HJ4.out.below (belowN' (one_belowS _ _) _), Or.inl rfl⟩
                · subst h
                  have cm : w4.cell? ⟨mb, 0, none⟩ = some (.int .i64 mm) := box_cell hmb
                  have mblt : mb < w4.heap.size := box_lt hmb
                  clear hmb
                  by_cases hf : findE P.s h1 h2 = 0
                  · have hnx := hx0 hf
                    have hmm := hk.find hf
                    rw [← hnx] at hmm
                    rw [hf]
                    clear hx0 hx1 hf hk hnx
                    obtain ⟨nu, nn, nt, nm, np, nks, nh, nc⟩ := nx
                    dsimp only at hmm
                    subst hmm
                    go_wp2_with fail
                    go_big_quiet (fail)
                    go_wp2_with fail
                    go_roundg (M - (i + 1))
                    case measure => omega
                    case rel => exact ⟨i + 1, P, y0, y1, y2, y3, z0, z1, z2, z3, by omega, by omega, by go_num, HJ4.out.below (belowN' (one_belowS _ _) _), MkI.below HM4.out (belowN' (one_belowS _ _) _)⟩
                  · clear hx0 hx1 hk
                    generalize findE P.s h1 h2 = E2 at *
                    have hf2 : decide (E2 = 0) = false := decide_eq_false hf
                    have hf3 : (E2 == 0) = false := beq_eq_false_iff_ne.2 hf
                    clear hf
                    go_wp2_with fail
                    go_big_quiet (fail)
                    go_wp2_with fail
                    go_roundg (M - (i + 1))
                    case measure => omega
                    case rel => exact ⟨i + 1, P, y0, y1, y2, y3, z0, z1, z2, z3, by omega, by omega, by go_num, HJ4.out.below (belowN' (one_belowS _ _) _), MkI.below HM4.out (belowN' (one_belowS _ _) _)⟩
          · subst e1
            have STEP : Hid (∀ m, MarkI Q.s (h1, h2) m → MarkI P.s (h1, h2) m) := fun m h => h.step HK.out (fun hh => e2 (congrArg Prod.snd (hh.1.symm.trans HD.out)))
            clear HK HD
            have n1 : (o2 == h2) = false := beq_eq_false_iff_ne.2 (fun e => e2 e.symm)
            have n2 : decide (o2 = h2) = false := decide_eq_false (fun e => e2 e.symm)
            go_wp2_with fail
            obtain ⟨J, hoff⟩ := HI3.out.put (S1 := ((((w3.setCell ⟨w.heap.size, 0, none⟩ (.slice y0 P.s.length z0)).setCell ⟨w.heap.size, 1, none⟩ (.slice y1 P.hs.length z1)).setCell ⟨w.heap.size, 2, none⟩ (.slice y2 P.i.length z2)).setCell ⟨w.heap.size, 3, none⟩ (.slice y3 P.t.length z3))) (Below.refl _ _) HY.out HP.out rfl
            have hbS : Below ((((w3.setCell ⟨w.heap.size, 0, none⟩ (.slice y0 P.s.length z0)).setCell ⟨w.heap.size, 1, none⟩ (.slice y1 P.hs.length z1)).setCell ⟨w.heap.size, 2, none⟩ (.slice y2 P.i.length z2)).setCell ⟨w.heap.size, 3, none⟩ (.slice y3 P.t.length z3)).heap.size ((((w3.setCell ⟨w.heap.size, 0, none⟩ (.slice y0 P.s.length z0)).setCell ⟨w.heap.size, 1, none⟩ (.slice y1 P.hs.length z1)).setCell ⟨w.heap.size, 2, none⟩ (.slice y2 P.i.length z2)).setCell ⟨w.heap.size, 3, none⟩ (.slice y3 P.t.length z3)) ((((((w3.setCell ⟨w.heap.size, 0, none⟩ (.slice y0 P.s.length z0)).setCell ⟨w.heap.size, 1, none⟩ (.slice y1 P.hs.length z1)).setCell ⟨w.heap.size, 2, none⟩ (.slice y2 P.i.length z2)).setCell ⟨w.heap.size, 3, none⟩ (.slice y3 P.t.length z3)).alloc (.cells #[.slice y0 P.s.length z0, .slice y1 P.hs.length z1, .slice y2 P.i.length z2, .slice y3 P.t.length z3] 31)).alloc (.cells #[.int .i64 h1, .int .i64 o2] 39)) := two_belowS _ _ _
            have HJ : Hid (NoneI w bh h1 h2 P y0 y1 y2 y3 z0 z1 z2 z3 ((((((w3.setCell ⟨w.heap.size, 0, none⟩ (.slice y0 P.s.length z0)).setCell ⟨w.heap.size, 1, none⟩ (.slice y1 P.hs.length z1)).setCell ⟨w.heap.size, 2, none⟩ (.slice y2 P.i.length z2)).setCell ⟨w.heap.size, 3, none⟩ (.slice y3 P.t.length z3)).alloc (.cells #[.slice y0 P.s.length z0, .slice y1 P.hs.length z1, .slice y2 P.i.length z2, .slice y3 P.t.length z3] 31)).alloc (.cells #[.int .i64 h1, .int .i64 o2] 39))) := J.below hbS
            have HMJ : Hid _ := MkI.below (MkI.put HM3.out HI3.out.box rfl hoff STEP.out) hbS
            clear J hoff hbS
            refine Calls.mono (HF.out _ HJ.out.rl.1) ?_
            rintro e w4 ⟨nx, ka, kl, kc, rfl, hb, hx0, hx1⟩
            have HJ4 : Hid (NoneI w bh h1 h2 P y0 y1 y2 y3 z0 z1 z2 z3 w4) := HJ.out.below hb
            have HM4 : Hid _ := MkI.below HMJ.out hb
            clear hb HJ HMJ HF l0 l1 l2 l3 fz lt0 k0 k1 lth m0 m1 m4 mlt g0 g1 glt
            rcases HM4.out with h | ⟨mb, mm, h, hmb, hk⟩
            · subst h
              by_cases hf : findE P.s h1 h2 = 0
              · rw [hf]
                clear hx0 hx1 hf
                go_wp2_with fail
                go_big_quiet (fail)
                go_wp2_with fail
                go_roundg (M - (i + 1))
                case measure => omega
                case rel => exact ⟨i + 1, P, y0, y1, y2, y3, z0, z1, z2, z3, by omega, by omega, by go_num, HJ4.out.below (belowN' (one_belowS _ _) _), Or.inl rfl⟩
              · clear hx0 hx1
                generalize findE P.s h1 h2 = E2 at *
                have hf2 : decide (E2 = 0) = false := decide_eq_false hf
                have hf3 : (E2 == 0) = false := beq_eq_false_iff_ne.2 hf
                clear hf
                go_wp2_with fail
                go_big_quiet (fail)
                go_wp2_with fail
                go_roundg (M - (i + 1))
                case measure => omega
                case rel => exact ⟨i + 1, P, y0, y1, y2, y3, z0, z1, z2, z3, by omega, by omega, by go_num, HJ4.out.below (belowN' (one_belowS _ _) _), Or.inl rfl⟩
            · subst h
              have cm : w4.cell? ⟨mb, 0, none⟩ = some (.int .i64 mm) := box_cell hmb
              have mblt : mb < w4.heap.size := box_lt hmb
              clear hmb
              by_cases hf : findE P.s h1 h2 = 0
              · have hnx := hx0 hf
                have hmm := hk.find hf
                rw [← hnx] at hmm
                rw [hf]
                clear hx0 hx1 hf hk hnx
                obtain ⟨nu, nn, nt, nm, np, nks, nh, nc⟩ := nx
                dsimp only at hmm
                subst hmm
                go_wp2_with fail
                go_big_quiet (fail)
                go_wp2_with fail
                go_roundg (M - (i + 1))
                case measure => omega
                case rel => exact ⟨i + 1, P, y0, y1, y2, y3, z0, z1, z2, z3, by omega, by omega, by go_num, HJ4.out.below (belowN' (one_belowS _ _) _), MkI.below HM4.out (belowN' (one_belowS _ _) _)⟩
              · clear hx0 hx1 hk
                generalize findE P.s h1 h2 = E2 at *
                have hf2 : decide (E2 = 0) = false := decide_eq_false hf
                have hf3 : (E2 == 0) = false := beq_eq_false_iff_ne.2 hf
                clear hf
                go_wp2_with fail
                go_big_quiet (fail)
                go_wp2_with fail
                go_roundg (M - (i + 1))
                case measure => omega
                case rel => exact ⟨i + 1, P, y0, y1, y2, y3, z0, z1, z2, z3, by omega, by omega, by go_num, HJ4.out.below (belowN' (one_belowS _ _) _), MkI.below HM4.out (belowN' (one_belowS _ _) _)⟩
        · clear DD
          have STEP : Hid (∀ m, MarkI Q.s (h1, h2) m → MarkI P.s (h1, h2) m) := fun m h => h.step HK.out (fun hh => e1 (congrArg Prod.fst (hh.1.symm.trans HD.out)))
          clear HK HD
          have n1 : (o1 == h1) = false := beq_eq_false_iff_ne.2 (fun e => e1 e.symm)
          have n2 : decide (o1 = h1) = false := decide_eq_false (fun e => e1 e.symm)
          go_wp2_with fail
          obtain ⟨J, hoff⟩ := HI3.out.put (S1 := ((((w3.setCell ⟨w.heap.size, 0, none⟩ (.slice y0 P.s.length z0)).setCell ⟨w.heap.size, 1, none⟩ (.slice y1 P.hs.length z1)).setCell ⟨w.heap.size, 2, none⟩ (.slice y2 P.i.length z2)).setCell ⟨w.heap.size, 3, none⟩ (.slice y3 P.t.length z3))) (Below.refl _ _) HY.out HP.out rfl
          have hbS : Below ((((w3.setCell ⟨w.heap.size, 0, none⟩ (.slice y0 P.s.length z0)).setCell ⟨w.heap.size, 1, none⟩ (.slice y1 P.hs.length z1)).setCell ⟨w.heap.size, 2, none⟩ (.slice y2 P.i.length z2)).setCell ⟨w.heap.size, 3, none⟩ (.slice y3 P.t.length z3)).heap.size ((((w3.setCell ⟨w.heap.size, 0, none⟩ (.slice y0 P.s.length z0)).setCell ⟨w.heap.size, 1, none⟩ (.slice y1 P.hs.length z1)).setCell ⟨w.heap.size, 2, none⟩ (.slice y2 P.i.length z2)).setCell ⟨w.heap.size, 3, none⟩ (.slice y3 P.t.length z3)) ((((((w3.setCell ⟨w.heap.size, 0, none⟩ (.slice y0 P.s.length z0)).setCell ⟨w.heap.size, 1, none⟩ (.slice y1 P.hs.length z1)).setCell ⟨w.heap.size, 2, none⟩ (.slice y2 P.i.length z2)).setCell ⟨w.heap.size, 3, none⟩ (.slice y3 P.t.length z3)).alloc (.cells #[.slice y0 P.s.length z0, .slice y1 P.hs.length z1, .slice y2 P.i.length z2, .slice y3 P.t.length z3] 31)).alloc (.cells #[.int .i64 o1, .int .i64 o2] 39)) := two_belowS _ _ _
          have HJ : Hid (NoneI w bh h1 h2 P y0 y1 y2 y3 z0 z1 z2 z3 ((((((w3.setCell ⟨w.heap.size, 0, none⟩ (.slice y0 P.s.length z0)).setCell ⟨w.heap.size, 1, none⟩ (.slice y1 P.hs.length z1)).setCell ⟨w.heap.size, 2, none⟩ (.slice y2 P.i.length z2)).setCell ⟨w.heap.size, 3, none⟩ (.slice y3 P.t.length z3)).alloc (.cells #[.slice y0 P.s.length z0, .slice y1 P.hs.length z1, .slice y2 P.i.length z2, .slice y3 P.t.length z3] 31)).alloc (.cells #[.int .i64 o1, .int .i64 o2] 39))) := J.below hbS
          have HMJ : Hid _ := MkI.below (MkI.put HM3.out HI3.out.box rfl hoff STEP.out) hbS
          clear J hoff hbS
          refine Calls.mono (HF.out _ HJ.out.rl.1) ?_
          rintro e w4 ⟨nx, ka, kl, kc, rfl, hb, hx0, hx1⟩
          have HJ4 : Hid (NoneI w bh h1 h2 P y0 y1 y2 y3 z0 z1 z2 z3 w4) := HJ.out.below hb
          have HM4 : Hid _ := MkI.below HMJ.out hb
          clear hb HJ HMJ HF l0 l1 l2 l3 fz lt0 k0 k1 lth m0 m1 m4 mlt g0 g1 glt
          rcases HM4.out with h | ⟨mb, mm, h, hmb, hk⟩
          · subst h
            by_cases hf : findE P.s h1 h2 = 0
            · rw [hf]
              clear hx0 hx1 hf
              go_wp2_with fail
              go_big_quiet (fail)
              go_wp2_with fail
              go_roundg (M - (i + 1))
              case measure => omega
              case rel => exact ⟨i + 1, P, y0, y1, y2, y3, z0, z1, z2, z3, by omega, by omega, by go_num, HJ4.out.below (belowN' (one_belowS _ _) _), Or.inl rfl⟩
            · clear hx0 hx1
              generalize findE P.s h1 h2 = E2 at *
              have hf2 : decide (E2 = 0) = false := decide_eq_false hf
              have hf3 : (E2 == 0) = false := beq_eq_false_iff_ne.2 hf
              clear hf
              go_wp2_with fail
              go_big_quiet (fail)
              go_wp2_with fail
              go_roundg (M - (i + 1))
              case measure => omega
              case rel => exact ⟨i + 1, P, y0, y1, y2, y3, z0, z1, z2, z3, by omega, by omega, by go_num, HJ4.out.below (belowN' (one_belowS _ _) _), Or.inl rfl⟩
          · subst h
            have cm : w4.cell? ⟨mb, 0, none⟩ = some (.int .i64 mm) := box_cell hmb
            have mblt : mb < w4.heap.size := box_lt hmb
            clear hmb
            by_cases hf : findE P.s h1 h2 = 0
            · have hnx := hx0 hf
              have hmm := hk.find hf
              rw [← hnx] at hmm
              rw [hf]
              clear hx0 hx1 hf hk hnx
              obtain ⟨nu, nn, nt, nm, np, nks, nh, nc⟩ := nx
              dsimp only at hmm
              subst hmm
              go_wp2_with fail
              go_big_quiet (fail)
              go_wp2_with fail
              go_roundg (M - (i + 1))
              case measure => omega
              case rel => exact ⟨i + 1, P, y0, y1, y2, y3, z0, z1, z2, z3, by omega, by omega, by go_num, HJ4.out.below (belowN' (one_belowS _ _) _), MkI.below HM4.out (belowN' (one_belowS _ _) _)⟩
            · clear hx0 hx1 hk
              generalize findE P.s h1 h2 = E2 at *
              have hf2 : decide (E2 = 0) = false := decide_eq_false hf
              have hf3 : (E2 == 0) = false := beq_eq_false_iff_ne.2 hf
              clear hf
              go_wp2_with fail
              go_big_quiet (fail)
              go_wp2_with fail
              go_roundg (M - (i + 1))
              case measure => omega
              case rel => exact ⟨i + 1, P, y0, y1, y2, y3, z0, z1, z2, z3, by omega, by omega, by go_num, HJ4.out.below (belowN' (one_belowS _ _) _), MkI.below HM4.out (belowN' (one_belowS _ _) _)⟩
      · have hE2 : decide (E = 0) = false := decide_eq_false hE
        have hE3 : (E == 0) = false := beq_eq_false_iff_ne.2 hE
        clear KP DD
        go_wp2_with fail
        go_roundg (M - (i + 1))
        case measure => omega
        case rel => exact ⟨i + 1, Q, _, _, _, _, _, _, _, _, by omega, by omega, by go_num, HI3.out.below (one_belowS _ _), MkI.below HM3.out (one_belowS _ _)⟩
    · have hie : i = M := by omega
      subst hie
      have HB9 : Hid (Below w.heap.size w wr) := HI.out.bel
      clear HI HM DD
      go_wp2_with fail
      go_ret
      exact ⟨rfl, HB9.out⟩
end Go.Proofs.YtgjfmepbphfjoaaGreat
