/-
  CloneLike at whatever arguments.
-/
import Derived.Test.YthlpkdmmkfhleadJCh
import Derived.BigQuiet
namespace Go.Proofs.Ythlpkdmmkfhlead
open Go.RowKit Go.ChangeShapes Go.WideShapes

theorem below_drewN {B : Nat} {w w' : World} (h : Below B w w') (n : Nat) : Below B w (w'.drewN n) := ⟨h.os, h.tape, h.output, h.size, h.block⟩

theorem tmod_bdC (k : Int) (n : Nat) (hn : 0 < n) : -(n : Int) < k.tmod n ∧ k.tmod n < n := by
  have h1 := Int.tmod_lt_of_pos k (b := (n : Int)) (by omega)
  have h2 := Int.tmod_lt_of_pos (-k) (b := (n : Int)) (by omega)
  rw [Int.neg_tmod] at h2
  omega

set_option maxHeartbeats 400000 in
theorem at_inC (k : Int) (n : Nat) (hn : 0 < n) (hn' : n ≤ 1000) : ∃ p : Nat, p < n ∧ ∀ w : World,
    Calls Try.prog 7 #[.int .i64 k, .int .i64 n] w fun e w' => e = .returned (.int .i64 (p : Int)) ∧ w' = w := by
  obtain ⟨hb1, hb2⟩ := tmod_bdC k n hn
  generalize hr : k.tmod (n : Int) = r at hb1 hb2
  by_cases h : r < 0
  · obtain ⟨p, hp⟩ : ∃ p : Nat, (p : Int) = r + n := ⟨(r + n).toNat, by omega⟩
    refine ⟨p, by omega, fun w => ?_⟩
    have HP : Hid ((p : Int) = r + n) := hp
    clear hp
    go_enter Try.func7, Try.ntmps7
    go_wp2
    go_ret
    exact ⟨by rw [HP.out]; rfl, rfl⟩
  · obtain ⟨p, hp⟩ : ∃ p : Nat, (p : Int) = r := ⟨r.toNat, by omega⟩
    refine ⟨p, by omega, fun w => ?_⟩
    have HP : Hid ((p : Int) = r) := hp
    clear hp
    go_enter Try.func7, Try.ntmps7
    go_wp2
    go_ret
    exact ⟨by rw [HP.out]; rfl, rfl⟩

set_option maxRecDepth 100000 in
set_option maxHeartbeats 2000000 in
theorem cloneLike_err (a xa : Option Addr) (c len cap : Nat) (G : List Cl) (E : Int) (w : World) (hN : G.length ≤ 9223372036854775807) (hB : BigC G) (hS : ClsAt w a G) (hE : gcheckE G = E) (hE0 : E ≠ 0) :
    Calls Try.prog 5 #[.agg #[.slice a G.length c], .slice xa len cap] w fun e w' => e = .returned (.bool true) ∧ Below w.heap.size w w' := by
  have d := fun (W : World) (hW : ClsAt W a G) => copy_any a c G W hN hB hW
  rw [hE] at d
  have D : Hid _ := d
  have DC : Hid ClonedOk := cloned_ok
  have HS : Hid (ClsAt w a G) := hS
  have e1 : (E == 0) = false := beq_eq_false_iff_ne.2 hE0
  have e2 : decide (E = 0) = false := decide_eq_false hE0
  clear hS hE hB d
  generalize G.length = n at *
  go_enter Try.func5, Try.ntmps5
  go_wp2_with fail
  refine Calls.mono (D.out _ (HS.out.below (one_belowS _ _))) ?_
  rintro e w1 ⟨v, rfl, hb, K, hown⟩
  obtain ⟨va, vc, hv, _⟩ := hown.cls
  subst hv
  have HB : Hid (Below w.heap.size w w1) := (one_belowS w _).trans (hb.mono (by simp))
  clear hb hown
  generalize (resF G).length = m at *
  go_wp2_with fail
  refine Calls.mono (DC.out _) ?_
  rintro e w3 ⟨rfl, hb⟩
  have HB3 : Hid (Below w.heap.size w w3) := (HB.out.trans ((one_belowS _ _).mono HB.out.size)).trans (hb.mono (by have := HB.out.size; simp; omega))
  clear hb
  go_wp2_with fail
  refine Calls.mono (DC.out _) ?_
  rintro e w4 ⟨rfl, hb⟩
  have HB4 : Hid (Below w.heap.size w w4) := HB3.out.trans (hb.mono HB3.out.size)
  clear hb
  go_wp2_with fail
  go_ret
  exact ⟨rfl, HB4.out⟩

set_option maxRecDepth 100000 in
set_option maxHeartbeats 8000000 in
theorem cloneLike_ok (a xa : Option Addr) (c len cap : Nat) (G : List Cl) (z : List Int) (w : World) (hR : Right G) (hS : ClsAt w a G) (hlen : z.length = len) (hlc : len ≤ cap) (hcm : cap ≤ 9223372036854775807) (hZ : IntsAt w xa z) :
    Calls Try.prog 5 #[.agg #[.slice a G.length c], .slice xa len cap] w fun e w' => e = .returned (.bool true) ∧ Below w.heap.size w w' := by
  have hN := hR.few
  have hg : gcheckE G = 0 := gcheck_zero.2 hR
  have hRC := hR.copy
  have hgc : gcheckE (copyF G) = 0 := gcheck_zero.2 hRC
  have hcc := copy_copy hR.kids
  have D : Hid (∀ W, ClsAt W a G → Calls Try.prog 16 #[.agg #[.slice a G.length c]] W fun e w' => ∃ va vc, e = .returned (.tuple #[.agg #[.slice va (copyF G).length vc], .int .i64 0]) ∧ Below W.heap.size W w' ∧ ClsAt w' va (copyF G)) := fun W hW => by
    refine (copy_any a c G W (by omega) hR.big hW).mono ?_
    rintro e w' ⟨v, rfl, hb, K, hown⟩
    rw [show resF G = copyF G from if_pos hg] at hown
    obtain ⟨va, vc, rfl, hc⟩ := hown.cls
    exact ⟨va, vc, by rw [hg], hb, hc⟩
  have DD : Hid (∀ va vc W, ClsAt W va (copyF G) → Calls Try.prog 16 #[.agg #[.slice va (copyF G).length vc]] W fun e w' => ∃ va vc, e = .returned (.tuple #[.agg #[.slice va (copyF G).length vc], .int .i64 0]) ∧ Below W.heap.size W w' ∧ ClsAt w' va (copyF G)) := fun va vc W hW => by
    refine (copy_any va vc (copyF G) W (by have := hRC.few; omega) hRC.big hW).mono ?_
    rintro e w' ⟨v, rfl, hb, K, hown⟩
    rw [show resF (copyF G) = copyF G from (if_pos hgc).trans hcc] at hown
    obtain ⟨va, vc, rfl, hc⟩ := hown.cls
    exact ⟨va, vc, by rw [hgc], hb, hc⟩
  have DL : Hid (∀ va vc W, ClsAt W a G → ClsAt W va (copyF G) → Calls Try.prog 17 #[.agg #[.slice a G.length c], .agg #[.slice va (copyF G).length vc]] W fun e w' => e = .returned (.tuple #[.bool true, .int .i64 0]) ∧ Below W.heap.size W w') := fun va vc W h1 h2 => by
    have hl : likeE G (copyF G) = 0 := by unfold likeE; rw [if_pos hg, hgc]
    refine (like_any a va c vc G (copyF G) W (by omega) (by have := hRC.few; omega) hR.big hRC.big h1 h2).mono ?_
    rintro e w' ⟨r, rfl, hb, hr⟩
    exact ⟨by rw [hr.2 ⟨hl, hcc.symm⟩, hl], hb⟩
  have DS : Hid (∀ va vc va' vc' W, ClsAt W va (copyF G) → ClsAt W va' (copyF G) → Calls Try.prog 22 #[.agg #[.slice va (copyF G).length vc], .agg #[.slice va' (copyF G).length vc']] W fun e w' => e = .returned (.bool true) ∧ Below W.heap.size W w') := fun va vc va' vc' W h1 h2 => by
    refine (gsame_any va va' vc vc' (copyF G) (copyF G) W (by have := hRC.few; omega) hRC.big h1 h2).mono ?_
    rintro e w' ⟨r, rfl, hb, hr⟩
    exact ⟨by rw [hr.2 rfl], hb⟩
  have DK : Hid (∀ va vc W, ClsAt W va (copyF G) → Calls Try.prog 20 #[.agg #[.slice va (copyF G).length vc]] W fun e w' => e = .returned (.int .i64 0) ∧ Below W.heap.size W w') := fun va vc W h1 => by
    refine (gcheck_any va vc (copyF G) W (by have := hRC.few; omega) hRC.big h1).mono ?_
    rintro e w' ⟨rfl, hb⟩
    exact ⟨by rw [hgc], hb⟩
  have DC : Hid ClonedOk := cloned_ok
  have HS : Hid (ClsAt w a G) := hS
  have HZ : Hid (IntsAt w xa z) := hZ
  have HLEN : Hid (z.length = len) := hlen
  have hle := copy_le hR
  have C00 : Hid (G.length = 0 → (copyF G).length = 0) := fun h => by rw [copyF_none h]; rfl
  have FST : Hid (0 < G.length → 0 < (reach G).length ∧ (reach G).getD 0 0 = ((0 : Nat) : Int)) := fun h => by
    obtain ⟨r, hr⟩ := reach_first hR.kids h
    rw [hr]
    exact ⟨by simp, rfl⟩
  have STEP : Hid (0 < G.length → ∀ x y : Nat, y < (reach G).length → (reach G).getD y 0 = x → x < G.length ∧ (cl (copyF G) y).n = (cl G x).n ∧ (cl (copyF G) y).ks.length = (cl G x).ks.length ∧ ∀ j, j < (cl G x).ks.length → ∃ x' y' : Nat, (cl G x).ks.getD j 0 = x' ∧ x' < G.length ∧ (cl (copyF G) y).ks.getD j 0 = y' ∧ y' < (reach G).length ∧ (reach G).getD y' 0 = x') := fun h0 x y hy e => by
    obtain ⟨q, e2, hq⟩ := (reach_places hR.kids h0).2 ((reach G).getD y 0) (by rw [getD_elem _ _ hy]; exact List.getElem_mem hy)
    obtain ⟨h1, h2, h3⟩ := copy_step hR.kids h0 hy e
    exact ⟨by omega, h1, h2, h3⟩
  have CLN : Hid (0 < G.length → (copyF G).length = (reach G).length) := fun h => copyF_len h
  have K8 : Hid (∀ i, i < G.length → (cl G i).ks.length ≤ 8) := hR.kids8
  clear hS hZ hR hRC hg hgc hcc hlen
  generalize copyF G = C at *
  obtain ⟨n, hn⟩ : ∃ n, G.length = n := ⟨_, rfl⟩
  have HN : Hid (G.length = n) := hn
  rw [hn] at hN D DL hle C00 FST STEP K8 CLN ⊢
  obtain ⟨m, hm⟩ : ∃ m, C.length = m := ⟨_, rfl⟩
  have HM : Hid (C.length = m) := hm
  rw [hm] at D DD DL DS DK hle C00 CLN
  clear hn hm
  go_enter Try.func5, Try.ntmps5
  go_wp2_with fail
  refine Calls.mono (D.out _ (HS.out.below (one_belowS _ _))) ?_
  rintro e w1 ⟨va, vc, rfl, hb, hcl⟩
  have l0 := keepC (alloc_cell w #[.slice a n c] 47 0 rfl) hb
  have HB : Hid (Below w.heap.size w w1) := (one_belowS w _).trans (hb.mono (by simp))
  have HC1 : Hid (ClsAt w1 va C) := hcl
  clear hb hcl D
  have l0' := keepC l0 (one_belowS w1 (.cells #[.slice va m vc] 47))
  have l1' := alloc_cell w1 #[.slice va m vc] 47 0 (v := .slice va m vc) rfl
  go_wp2_with fail
  refine Calls.mono (DC.out _) ?_
  rintro e w2 ⟨rfl, hb⟩
  have HB2 : Hid (Below w.heap.size w w2) := (HB.out.trans ((one_belowS _ _).mono HB.out.size)).trans (hb.mono (by have := HB.out.size; simp; omega))
  have HC2 : Hid (ClsAt w2 va C) := (HC1.out.below (one_belowS _ _)).below hb
  have m0 := keepC l0' hb
  have m1 := keepC l1' hb
  clear hb l0 l0' l1' HC1 DC
  go_wp2_with fail
  refine Calls.mono (DD.out va vc _ HC2.out) ?_
  rintro e w3 ⟨va3, vc3, rfl, hb, hcl⟩
  have HB3 : Hid (Below w.heap.size w w3) := HB2.out.trans (hb.mono HB2.out.size)
  have HC3 : Hid (ClsAt w3 va C) := HC2.out.below hb
  have HD3 : Hid (ClsAt w3 va3 C) := hcl
  have n0 := keepC m0 hb
  have n1 := keepC m1 hb
  have k0 := keepC n0 (one_belowS w3 (.cells #[.slice va3 m vc3] 47))
  have k1 := keepC n1 (one_belowS w3 (.cells #[.slice va3 m vc3] 47))
  have k2 := alloc_cell w3 #[.slice va3 m vc3] 47 0 (v := .slice va3 m vc3) rfl
  have z0 := World.block_lt_of_cell? _ _ n0
  have z1 := World.block_lt_of_cell? _ _ n1
  clear hb hcl m0 m1 HC2 DD
  go_wp2_with fail
  refine Calls.mono (DL.out va vc _ (HS.out.below (HB3.out.trans ((one_belowS _ _).mono HB3.out.size))) (HC3.out.below (one_belowS _ _))) ?_
  rintro e w4 ⟨rfl, hb⟩
  have HB4 : Hid (Below w.heap.size w w4) := (HB3.out.trans ((one_belowS _ _).mono HB3.out.size)).trans (hb.mono (by have := HB3.out.size; simp; omega))
  have HC4 : Hid (ClsAt w4 va C) := (HC3.out.below (one_belowS _ _)).below hb
  have HD4 : Hid (ClsAt w4 va3 C) := (HD3.out.below (one_belowS _ _)).below hb
  have j0 := keepC k0 hb
  have j1 := keepC k1 hb
  have j2 := keepC k2 hb
  clear hb n0 n1 k0 k1 k2 HC3 HD3 DL z0 z1
  go_wp2_with fail
  refine Calls.mono (DS.out va vc va3 vc3 _ HC4.out HD4.out) ?_
  rintro e w5 ⟨rfl, hb⟩
  have HB5 : Hid (Below w.heap.size w w5) := HB4.out.trans (hb.mono HB4.out.size)
  have HC5 : Hid (ClsAt w5 va C) := HC4.out.below hb
  have i0 := keepC j0 hb
  have i1 := keepC j1 hb
  clear hb j0 j1 j2 HC4 HD4 DS
  go_wp2_with fail
  refine Calls.mono (DK.out va vc _ HC5.out) ?_
  rintro e w6 ⟨rfl, hb⟩
  have HB6 : Hid (Below w.heap.size w w6) := HB5.out.trans (hb.mono HB5.out.size)
  have HC6 : Hid (ClsAt w6 va C) := HC5.out.below hb
  have l0 := keepC i0 hb
  have l1 := keepC i1 hb
  clear hb i0 i1 HC5 DK
  have hle2 : ¬ (n : Int) < (m : Int) := by omega
  have hle3 : decide ((n : Int) < (m : Int)) = false := decide_eq_false hle2
  have hle4 : decide (n < m) = false := decide_eq_false (by omega)
  have hle5 : ¬ n < m := by omega
  by_cases hn0 : n = 0
  · have hm0 : m = 0 := C00.out hn0
    subst hn0
    subst hm0
    go_wp2_with fail
    go_ret
    exact ⟨rfl, HB6.out⟩
  · have hn1 : decide ((n : Int) = 0) = false := decide_eq_false (by omega)
    have hn2 : ((n : Int) == 0) = false := by simp; omega
    have hn3 : ¬ (n : Int) = 0 := by omega
    obtain ⟨f1, f2⟩ := FST.out (by omega)
    have STEP2 : Hid _ := STEP.out (by omega)
    have CLN2 : Hid _ := CLN.out (by omega)
    have HF2 : Hid _ := f2
    clear STEP FST f2 CLN C00
    generalize reach G = T at *
    by_cases hl50 : len ≤ 50
    · have hl51 : ¬ (50 : Int) < (len : Int) := by omega
      have hl52 : (len : Int) ≤ 50 := by omega
      go_wp2_with fail
      go_loopg [10, 11, 102] len (fun g s10 s11 s102 wr => ∃ j x y : Nat, j ≤ len ∧ len - j ≤ g ∧ s102 = .int .i64 j ∧ s10 = .int .i64 x ∧ s11 = .int .i64 y ∧ y < T.length ∧ Hid (T.getD y 0 = x) ∧ Hid (Below w6.heap.size w6 wr))
      case atStart => exact ⟨0, 0, 0, by omega, by omega, rfl, rfl, rfl, f1, HF2, Below.refl _ _⟩
      case round =>
        obtain ⟨j, x, y, hj, hgk, rfl, rfl, rfl, hyT, HXY, HBr⟩ := hrel
        have m0 := keepC l0 HBr.out
        have m1 := keepC l1 HBr.out
        have HBW : Hid (Below w.heap.size w wr) := HB6.out.trans (HBr.out.mono HB6.out.size)
        by_cases hlt : j < len
        · have hlt2 : (j : Int) < (len : Int) := by omega
          obtain ⟨zb, zo, ez, hzc⟩ := (HZ.out.below HBW.out) j (by rw [HLEN.out]; omega)
          subst ez
          obtain ⟨hxn, s1, s2, s3⟩ := STEP2.out x y hyT HXY.out
          obtain ⟨gb, go, ea, c0, ka, kc, c1, hki⟩ := (HS.out.below HBW.out) x (by rw [HN.out]; exact hxn)
          subst ea
          obtain ⟨db, dof, ed, d0, kb, kd, d1, hkd⟩ := (HC6.out.below HBr.out) y (by rw [HM.out, CLN2.out]; exact hyT)
          subst ed
          rw [s1] at d0
          rw [s2] at d1
          have S3 : Hid _ := s3
          have k8 := K8.out x hxn
          have HKI : Hid (IntsAt wr ka (cl G x).ks) := hki
          have HKD : Hid (IntsAt wr kb (cl C y).ks) := hkd
          have S2 : Hid ((cl C y).ks.length = (cl G x).ks.length) := s2
          have hxn2 : (x : Int) < (n : Int) := by omega
          have hyn2 : (y : Int) < (m : Int) := by have := CLN2.out; omega
          clear s1 s2 s3 hki hkd
          generalize z.getD j 0 = zz at *
          obtain ⟨kl, hkl⟩ : ∃ q, (cl G x).ks.length = q := ⟨_, rfl⟩
          rw [hkl] at c1 d1 S3 k8 S2
          have HKL : Hid ((cl G x).ks.length = kl) := hkl
          generalize (cl G x).n = xn at *
          clear hkl
          have ne0 := World.new_ne wr _ m0
          have ne1 := World.new_ne wr _ m1
          have ne2 := World.new_ne wr _ c0
          have ne3 := World.new_ne wr _ d0
          have q0 := World.block_lt_of_cell? _ _ m0
          have q1 := World.block_lt_of_cell? _ _ m1
          have q2 := World.block_lt_of_cell? _ _ c0
          have q3 := World.block_lt_of_cell? _ _ d0
          go_wp2_with fail
          go_region_held3 (fun w'' => w''.cell? ⟨w.heap.size, 0, none⟩ = some (.slice (some ⟨gb, go, none⟩) n c) ∧ w''.cell? ⟨w1.heap.size, 0, none⟩ = some (.slice (some ⟨db, dof, none⟩) m vc) ∧ w''.cell? ⟨gb, go + x * 2, none⟩ = some (.int .i64 xn) ∧ w''.cell? ⟨gb, go + x * 2 + 1, none⟩ = some (.slice ka kl kc) ∧ w''.cell? ⟨db, dof + y * 2, none⟩ = some (.int .i64 xn) ∧ w''.cell? ⟨db, dof + y * 2 + 1, none⟩ = some (.slice kb kl kd)) (go_keep) (fail)
          all_goals
            have HBX : Hid (∀ o1 o2, Below w6.heap.size w6 ((wr.alloc o1).alloc o2).drew) := fun o1 o2 => HBr.out.trans ((two_belowS wr o1 o2).drew.mono HBr.out.size)
            have HBY : Hid (∀ o1 o2 q, Below w6.heap.size w6 (((wr.alloc o1).alloc o2).drewN q)) := fun o1 o2 q => HBr.out.trans ((below_drewN (two_belowS wr o1 o2) q).mono HBr.out.size)
            by_cases h0 : kl = 0
            · subst h0
              clear S3
              go_wp2_with fail
              go_ret
              exact ⟨rfl, HB6.out.trans ((HBX.out _ _).mono HB6.out.size)⟩
            · have h1 : ¬ ((kl : Int) = 0) := by omega
              have h2 : decide ((kl : Int) = 0) = false := decide_eq_false h1
              have h3 : ((kl : Int) == 0) = false := by simp; omega
              obtain ⟨p, hp, hat⟩ := at_inC zz kl (by omega) (by omega)
              have AT : Hid _ := hat
              obtain ⟨x2, y2, e1, hx2, e2, hy2, e3⟩ := S3.out p hp
              obtain ⟨kab, kao, eka, ik⟩ := HKI.out p (by rw [HKL.out]; exact hp)
              obtain ⟨kbb, kbo, ekb, jk⟩ := HKD.out p (by rw [S2.out]; exact hp)
              rw [e1] at ik
              rw [e2] at jk
              subst eka
              subst ekb
              have HE3 : Hid _ := e3
              have hp2 : (p : Int) < (kl : Int) := by omega
              have t1 := World.block_lt_of_cell? _ _ ik
              have t2 := World.block_lt_of_cell? _ _ jk
              clear S3 e1 e2 e3 hat
              go_wp2_with fail
              refine Calls.mono (AT.out _) ?_
              rintro e w8 ⟨rfl, hw8⟩
              subst hw8
              go_wp2_with fail
              go_big_quiet (fail)
              go_wp2_with fail
              go_roundg (len - (j + 1))
              case measure => omega
              case rel => exact ⟨j + 1, x2, y2, by omega, by omega, by go_num, rfl, rfl, hy2, HE3, (by first | exact HBY.out _ _ _ | exact below_drewN (HBX.out _ _) _)⟩
        · have hje : len = j := by omega
          subst hje
          go_wp2_with fail
          go_ret
          exact ⟨rfl, HBW.out⟩
    · have hl51 : (50 : Int) < (len : Int) := by omega
      go_wp2_with fail
      go_loopg [10, 11, 102] 50 (fun g s10 s11 s102 wr => ∃ j x y : Nat, j ≤ 50 ∧ 50 - j ≤ g ∧ s102 = .int .i64 j ∧ s10 = .int .i64 x ∧ s11 = .int .i64 y ∧ y < T.length ∧ Hid (T.getD y 0 = x) ∧ Hid (Below w6.heap.size w6 wr))
      case atStart => exact ⟨0, 0, 0, by omega, by omega, rfl, rfl, rfl, f1, HF2, Below.refl _ _⟩
      case round =>
        obtain ⟨j, x, y, hj, hgk, rfl, rfl, rfl, hyT, HXY, HBr⟩ := hrel
        have m0 := keepC l0 HBr.out
        have m1 := keepC l1 HBr.out
        have HBW : Hid (Below w.heap.size w wr) := HB6.out.trans (HBr.out.mono HB6.out.size)
        by_cases hlt : j < 50
        · have hlt2 : (j : Int) < (50 : Int) := by omega
          obtain ⟨zb, zo, ez, hzc⟩ := (HZ.out.below HBW.out) j (by rw [HLEN.out]; omega)
          subst ez
          obtain ⟨hxn, s1, s2, s3⟩ := STEP2.out x y hyT HXY.out
          obtain ⟨gb, go, ea, c0, ka, kc, c1, hki⟩ := (HS.out.below HBW.out) x (by rw [HN.out]; exact hxn)
          subst ea
          obtain ⟨db, dof, ed, d0, kb, kd, d1, hkd⟩ := (HC6.out.below HBr.out) y (by rw [HM.out, CLN2.out]; exact hyT)
          subst ed
          rw [s1] at d0
          rw [s2] at d1
          have S3 : Hid _ := s3
          have k8 := K8.out x hxn
          have HKI : Hid (IntsAt wr ka (cl G x).ks) := hki
          have HKD : Hid (IntsAt wr kb (cl C y).ks) := hkd
          have S2 : Hid ((cl C y).ks.length = (cl G x).ks.length) := s2
          have hxn2 : (x : Int) < (n : Int) := by omega
          have hyn2 : (y : Int) < (m : Int) := by have := CLN2.out; omega
          clear s1 s2 s3 hki hkd
          generalize z.getD j 0 = zz at *
          obtain ⟨kl, hkl⟩ : ∃ q, (cl G x).ks.length = q := ⟨_, rfl⟩
          rw [hkl] at c1 d1 S3 k8 S2
          have HKL : Hid ((cl G x).ks.length = kl) := hkl
          generalize (cl G x).n = xn at *
          clear hkl
          have ne0 := World.new_ne wr _ m0
          have ne1 := World.new_ne wr _ m1
          have ne2 := World.new_ne wr _ c0
          have ne3 := World.new_ne wr _ d0
          have q0 := World.block_lt_of_cell? _ _ m0
          have q1 := World.block_lt_of_cell? _ _ m1
          have q2 := World.block_lt_of_cell? _ _ c0
          have q3 := World.block_lt_of_cell? _ _ d0
          go_wp2_with fail
          go_region_held3 (fun w'' => w''.cell? ⟨w.heap.size, 0, none⟩ = some (.slice (some ⟨gb, go, none⟩) n c) ∧ w''.cell? ⟨w1.heap.size, 0, none⟩ = some (.slice (some ⟨db, dof, none⟩) m vc) ∧ w''.cell? ⟨gb, go + x * 2, none⟩ = some (.int .i64 xn) ∧ w''.cell? ⟨gb, go + x * 2 + 1, none⟩ = some (.slice ka kl kc) ∧ w''.cell? ⟨db, dof + y * 2, none⟩ = some (.int .i64 xn) ∧ w''.cell? ⟨db, dof + y * 2 + 1, none⟩ = some (.slice kb kl kd)) (go_keep) (fail)
          all_goals
            have HBX : Hid (∀ o1 o2, Below w6.heap.size w6 ((wr.alloc o1).alloc o2).drew) := fun o1 o2 => HBr.out.trans ((two_belowS wr o1 o2).drew.mono HBr.out.size)
            have HBY : Hid (∀ o1 o2 q, Below w6.heap.size w6 (((wr.alloc o1).alloc o2).drewN q)) := fun o1 o2 q => HBr.out.trans ((below_drewN (two_belowS wr o1 o2) q).mono HBr.out.size)
            by_cases h0 : kl = 0
            · subst h0
              clear S3
              go_wp2_with fail
              go_ret
              exact ⟨rfl, HB6.out.trans ((HBX.out _ _).mono HB6.out.size)⟩
            · have h1 : ¬ ((kl : Int) = 0) := by omega
              have h2 : decide ((kl : Int) = 0) = false := decide_eq_false h1
              have h3 : ((kl : Int) == 0) = false := by simp; omega
              obtain ⟨p, hp, hat⟩ := at_inC zz kl (by omega) (by omega)
              have AT : Hid _ := hat
              obtain ⟨x2, y2, e1, hx2, e2, hy2, e3⟩ := S3.out p hp
              obtain ⟨kab, kao, eka, ik⟩ := HKI.out p (by rw [HKL.out]; exact hp)
              obtain ⟨kbb, kbo, ekb, jk⟩ := HKD.out p (by rw [S2.out]; exact hp)
              rw [e1] at ik
              rw [e2] at jk
              subst eka
              subst ekb
              have HE3 : Hid _ := e3
              have hp2 : (p : Int) < (kl : Int) := by omega
              have t1 := World.block_lt_of_cell? _ _ ik
              have t2 := World.block_lt_of_cell? _ _ jk
              clear S3 e1 e2 e3 hat
              go_wp2_with fail
              refine Calls.mono (AT.out _) ?_
              rintro e w8 ⟨rfl, hw8⟩
              subst hw8
              go_wp2_with fail
              go_big_quiet (fail)
              go_wp2_with fail
              go_roundg (50 - (j + 1))
              case measure => omega
              case rel => exact ⟨j + 1, x2, y2, by omega, by omega, by go_num, rfl, rfl, hy2, HE3, (by first | exact HBY.out _ _ _ | exact below_drewN (HBX.out _ _) _)⟩
        · have hje : j = 50 := by omega
          subst hje
          go_wp2_with fail
          go_ret
          exact ⟨rfl, HBW.out⟩
end Go.Proofs.Ythlpkdmmkfhlead
