/-
  PortKeeps where the script is short.
-/
import Derived.Test.YtgjfmepbphfjoaaUPs
namespace Go.Proofs.Ytgjfmepbphfjoaa
open Go.RowKit Go.ChangeShapes Go.WideShapes
set_option linter.unusedVariables false

set_option maxRecDepth 100000 in
set_option maxHeartbeats 8000000 in
theorem portKeeps_short (hO : OpenAnsX) (hP : PassAnsX) (hU : PushAnsX) (hPl : PullAnsX) (hS : ShutAnsX) (hC : PCheckAns) (ia : Option Addr) (ic : Nat) (I : List Int) (ga : Option Addr) (gc : Nat) (GS : List (List Cl)) (w : World) (h60 : I.length ≤ 60) (hIc : I.length ≤ ic) (hIm : ic ≤ 9223372036854775807) (hI : IntsAt w ia I) (hGN : GS.length ≤ 9223372036854775807) (hGB : BigG GS) (hG : GrsAt w ga GS) :
    Calls Try.prog 4 #[.slice ia I.length ic, .slice ga GS.length gc] w fun e w' => e = .returned (.bool true) ∧ Below w.heap.size w w' := by
  have DO : Hid (∀ W, _) := fun W => kOpen hO W
  have DP : Hid PairedOk := paired_ok hO.zero hP.zero hU.zero hPl.zero
  have HS : Hid ShutAnsX := hS
  have HPl : Hid PullAnsX := hPl
  have HU : Hid PushAnsX := hU
  have HP : Hid PassAnsX := hP
  have HC : Hid PCheckAns := hC
  have HZ : Hid (IntsAt w ia I) := hI
  have HG : Hid (GrsAt w ga GS) := hG
  have HGB : Hid (BigG GS) := hGB
  clear hO hP hU hPl hS hC hI hG hGB
  obtain ⟨len, hlen⟩ : ∃ z, I.length = z := ⟨_, rfl⟩
  have HLEN : Hid (I.length = len) := hlen
  rw [hlen] at hIc h60 ⊢
  have h61 : (len : Int) ≤ 60 := by omega
  clear hlen
  obtain ⟨gl, hgl⟩ : ∃ z, GS.length = z := ⟨_, rfl⟩
  have HGL : Hid (GS.length = gl) := hgl
  rw [hgl] at hGN ⊢
  clear hgl
  obtain ⟨i0, hi0, hz0, hz1, hz2⟩ := info_parts infoGraph
  go_enter Try.func4, Try.ntmps4
  go_wp2_with fail
  refine Calls.mono (DO.out _) ?_
  rintro e w1 ⟨va, vc, rfl, hb, hsl, hp⟩
  have HB1 : Hid (Below w.heap.size w w1) := hb
  have HSL0 : Hid (SlA va 2 vc) := hsl
  have HL1 : Hid (PtsAt w1 va _) := hp
  clear hb hsl hp
  go_wp2_with fail
  refine Calls.mono (DP.out _) ?_
  rintro e w2 ⟨rfl, hb⟩
  have K0 : Hid _ := KI.start (HB1.out.trans (hb.mono HB1.out.size)) HSL0.out (HL1.out.below hb)
  obtain ⟨b8, hb8⟩ : ∃ b, w2.heap.size = b := ⟨_, rfl⟩
  clear hb HB1 HL1 DO DP HSL0
  rw [hb8] at K0
  go_wp2_with fail
  obtain ⟨w3, hw3⟩ : ∃ X, (((w2.alloc (.cells #[.slice none 0 0, .slice none 0 0] 42)).alloc (.cells #[.slice none 0 0, .slice none 0 0] 42)).alloc (.cells #[.int .i64 0, .int .i64 0] 43)) = X := ⟨_, rfl⟩
  rw [hw3] at K0 ⊢
  clear hw3 hb8
  go_loopg [5, 53] len (fun g s5 s53 wr => ∃ (i vc : Nat) (va : Option Addr) (X : Nat → Prop) (o : Nat → Int) (C sent got : Nat → List (List Cl)) (v0 v1 g0 g1 : Value), i ≤ len ∧ len - i ≤ g ∧ s53 = .int .i64 i ∧ s5 = .slice va 2 vc ∧ Hid (KI w b8 wr X va vc o C sent got v0 v1 g0 g1 i))
  case atStart => exact ⟨0, vc, va, _, _, _, _, _, _, _, _, _, by omega, by omega, rfl, rfl, K0⟩
  case round =>
    clear K0
    obtain ⟨i, vc, va, X, o, C, sent, got, v0, v1, g0, g1, hi, hgi, rfl, rfl, KR⟩ := hrel
    by_cases hlt : i < len
    · have hlt2 : (i : Int) < (len : Int) := by omega
      obtain ⟨ib, io, ei, ic0⟩ := (HZ.out.below KR.out.below) i (by rw [HLEN.out]; omega)
      subst ei
      generalize I.getD i 0 = kk at *
      have HZr : Hid True := trivial
      obtain ⟨p0, k0, p1, k1, q0, l0, q1, l1, e0, e1, e2, e3⟩ := KR.out.rows
      subst e0 e1 e2 e3
      obtain ⟨hf0, hf1⟩ := KR.out.few
      have hs0 := KR.out.n0
      have hs1 := KR.out.n1
      have c0 : wr.cell? ⟨b8 + 1 + 1, 0, none⟩ = some (.int .i64 (o 0)) := (two_cells KR.out.kb.s10).1
      have c1 : wr.cell? ⟨b8 + 1 + 1, 1, none⟩ = some (.int .i64 (o 1)) := (two_cells KR.out.kb.s10).2.1
      go_wp2_with fail
      refine Calls.mono (at_two _ _) ?_
      rintro e w5 ⟨p, hp, rfl, hw⟩
      have h2 := hw.symm
      clear hw
      subst h2
      go_wp2_with fail
      refine Calls.mono (at_four _ _) ?_
      rintro e w5 ⟨wh, hwh, rfl, hw⟩
      have h2 := hw.symm
      clear hw ic0
      subst h2
      rcases hp with rfl | rfl
      · have hoa := KR.out.keep.ok.own 0 (by decide)
        obtain ⟨hoa1, hoa2⟩ := hoa
        clear c1 HZr
        go_wp2_with fail
        go_big_quiet (fail)
        go_wp2_with fail
        refine Calls.mono (kShut HS.out X va vc o C 0 _ _ KR.out.keep.ok (by decide) ?hx KR.out.sl (KR.out.drewN _).pts (KR.out.drewN _).kb.xlt) ?_
        case hx => omega
        rintro e w6 ⟨ya, yc, yn, rfl, hb⟩
        have K6 : Hid (KI w b8 w6 X va vc o C sent got (.slice p0 (sent 0).length k0) (.slice p1 (sent 1).length k1) (.slice q0 (got 0).length l0) (.slice q1 (got 1).length l1) i) := (KR.out.drewN _).up hb
        clear hb KR c0
        go_wp2_with fail
        refine Calls.mono (kPullNo HPl.out X va vc o C 0 _ _ K6.out.keep.ok (by decide) K6.out.sl K6.out.pts K6.out.kb.xlt) ?_
        rintro e w7 ⟨ya, yc, yn, za, zc, zn, rfl, hb⟩
        have K7 : Hid (KI w b8 w7 X va vc o C sent got (.slice p0 (sent 0).length k0) (.slice p1 (sent 1).length k1) (.slice q0 (got 0).length l0) (.slice q1 (got 1).length l1) i) := K6.out.up hb
        clear hb K6
        rcases hwh with rfl | rfl | rfl | rfl
        · as_aux_lemma =>
            by_cases hgl0 : gl = 0
            · subst hgl0
              go_wp2_with fail
              go_roundg (len - (i + 1))
              case measure => omega
              case rel => exact ⟨i + 1, _, _, X, o, C, sent, got, _, _, _, _, by omega, by omega, by go_num, rfl, (K7.out.up (one_belowS _ _)).next⟩
            · obtain ⟨j, hj2⟩ : ∃ j : Nat, i % gl = j := ⟨_, rfl⟩
              have hjl : j < gl := by rw [← hj2]; exact Nat.mod_lt _ (by omega)
              have hj1 : (i : Int) % (gl : Int) = (j : Int) := by rw [← hj2]; simp
              have hjl2 : (j : Int) < (gl : Int) := by omega
              have y1 : decide ((gl : Int) = 0) = false := decide_eq_false (by omega)
              have y2 : ((gl : Int) == 0) = false := by simp; omega
              have y3 : decide (gl = 0) = false := decide_eq_false hgl0
              obtain ⟨gb, gof, xa, xc, eg, gcell, gcl⟩ := HG.out j (by rw [HGL.out]; exact hjl)
              obtain ⟨hGn, hGb⟩ := HGB.out j (by rw [HGL.out]; exact hjl)
              subst eg
              generalize gr GS j = G at *
              have HGN : Hid (G.length ≤ 9223372036854775807) := hGn
              have HGG : Hid (BigC G) := hGb
              have HGC : Hid (ClsAt w xa G) := gcl
              have gcell7 := keepC gcell K7.out.below
              have hgb7 : gb < w7.heap.size := World.block_lt_of_cell? _ _ gcell7
              clear gcl hGb hGn gcell
              obtain ⟨gn, hgn⟩ : ∃ z, G.length = z := ⟨_, rfl⟩
              have HGNN : Hid (G.length = gn) := hgn
              rw [hgn] at gcell7
              have DU : Hid (∀ W, KI w b8 W X va vc o C sent got (.slice p0 (sent 0).length k0) (.slice p1 (sent 1).length k1) (.slice q0 (got 0).length l0) (.slice q1 (got 1).length l1) i → _) := fun W hW => kPush HU.out X va vc o C 0 xa xc G W hW.keep.ok (by decide) hW.sl hW.pts hW.kb.xlt HGN.out HGG.out (HGC.out.below hW.below)
              rw [hgn] at DU
              clear hgn
              go_wp2_with fail
              have K8 : Hid (KI w b8 _ X va vc o C sent got (.slice p0 (sent 0).length k0) (.slice p1 (sent 1).length k1) (.slice q0 (got 0).length l0) (.slice q1 (got 1).length l1) i) := K7.out.up (two_belowS w7 (.cells #[.slice za zn zc] 25) (.cells #[.slice xa gn xc] 25))
              refine Calls.mono (DU.out _ K8.out) ?_
              rintro e W ⟨va2, vc2, n2, E, rfl, hb, hor⟩
              have K9 : Hid (KI w b8 W X va vc o C sent got (.slice p0 (sent 0).length k0) (.slice p1 (sent 1).length k1) (.slice q0 (got 0).length l0) (.slice q1 (got 1).length l1) i) := K8.out.up hb
              have xc0 : W.cell? ⟨w7.heap.size + 1, 0, none⟩ = some (.slice xa gn xc) := keepC (alloc_cell2 w7 #[.slice xa gn xc] 25 0 (.cells #[.slice za zn zc] 25) rfl) hb
              have NX : Hid (∀ b, X b → b < w7.heap.size + 1) := fun b hx => Nat.lt_succ_of_lt (K7.out.kb.xlt b hx)
              clear hb K8 DU gcell7 hgb7
              rcases hor with ⟨rfl, rfl, hsl2, hgc, h16, hpt⟩ | ⟨hE, hbad⟩
              · have HP2 : Hid (PtsSt X W va2 _) := hpt
                have HS2 : Hid (SlA va2 2 vc2) := hsl2
                have H16 : Hid ((C 1).length ≠ 16) := h16
                have HGC0 : Hid (gcheckE G = 0) := hgc
                have a0 : W.cell? ⟨b8, 0, none⟩ = some (.slice p0 (sent 0).length k0) := (two_cells K9.out.kb.s8).1
                clear hpt hsl2 h16 hgc K7
                go_wp2_with fail
                refine wp_region_noPanic ?_
                refine wp_region_X (S := fun w'' => w''.cell? ⟨b8, 0, none⟩ = some (.slice p0 (sent 0).length k0) ∧ w''.cell? ⟨w7.heap.size + 1, 0, none⟩ = some (.slice xa gn xc)) 8 (by kernel_rfl) (by (try dsimp only); go_keep) (fun hHeld => ?_)
                refine wpAnyX_take (i := 0) (v := ?_) rfl (by kernel_rfl) (by kernel_rfl) (by kernel_rfl) (by kernel_rfl) (fun _ _ _ h => h) (Or.inl ⟨by rfl, ?_⟩) (by assumption) ?_
                rotate_left
                · intro w hSw; (try dsimp only at hSw); first | (go_simp; done) | (go_simp; with_reducible rfl)
                simp [Act.put]
                refine wpAnyX_take (i := 1) (v := ?_) rfl (by kernel_rfl) (by kernel_rfl) (by kernel_rfl) (by kernel_rfl) (fun _ _ _ h => h) (Or.inl ⟨by rfl, ?_⟩) (by assumption) ?_
                rotate_left
                · intro w hSw; (try dsimp only at hSw); first | (go_simp; done) | (go_simp; with_reducible rfl)
                simp [Act.put]
                refine wpAnyX_take (i := 2) (v := ?_) rfl (by kernel_rfl) (by kernel_rfl) (by kernel_rfl) (by kernel_rfl) (fun _ _ _ h => h) (Or.inl ⟨by rfl, ?_⟩) (by assumption) ?_
                rotate_left
                · intro w hSw; (try dsimp only at hSw); first | (go_simp; done) | (go_simp; with_reducible rfl)
                simp [Act.put]
                refine wpAnyX_take (i := 3) (v := ?_) rfl (by kernel_rfl) (by kernel_rfl) (by kernel_rfl) (by kernel_rfl) (fun _ _ _ h => h) (Or.inl ⟨by rfl, ?_⟩) (by assumption) ?_
                rotate_left
                · intro w hSw; (try dsimp only at hSw); first | (go_simp; done) | (go_simp; with_reducible rfl)
                simp [Act.put]
                refine wpAnyX_take (i := 4) (v := ?_) rfl (by kernel_rfl) (by kernel_rfl) (by kernel_rfl) (by kernel_rfl) (fun _ _ _ h => h) (Or.inl ⟨by rfl, ?_⟩) (by assumption) ?_
                rotate_left
                · intro w hSw; (try dsimp only at hSw); first | (go_simp; done) | (go_simp; with_reducible rfl)
                simp [Act.put]
                refine wpAnyX_one (i := 5) (by kernel_rfl) rfl (fun K hK => ?_)
                go_simp
                refine hK.out _ _ ?_ (fun hHeld => ?_)
                · (try dsimp only)
                  exact ⟨keepC a0 ((Below.refl W.heap.size W).drew.alloc (Nat.le_refl _) (.cells #[.slice xa gn xc] 25)), keepC xc0 ((Below.refl W.heap.size W).drew.alloc (Nat.le_refl _) (.cells #[.slice xa gn xc] 25))⟩
                clear hK K
                try simp [Act.put]
                have KU : Hid (KI w b8 (W.drew.alloc (.cells #[.slice xa gn xc] 25)) X va vc o C sent got (.slice p0 (sent 0).length k0) (.slice p1 (sent 1).length k1) (.slice q0 (got 0).length l0) (.slice q1 (got 1).length l1) i) := K9.out.up ((Below.refl W.heap.size W).drew.alloc (Nat.le_refl _) (.cells #[.slice xa gn xc] 25))
                obtain ⟨J, hJ⟩ := KU.out.kb.r0
                have HJ : Hid _ := hJ
                have hlt9 : ∀ b, ((.slice p0 (sent 0).length k0) : Value).ownBlock = some b → b8 + 3 ≤ b ∧ X b := fun b hb => ⟨(hJ.row.lt b hb).1, KU.out.kb.own (.slice p0 (sent 0).length k0) (by simp) b hb⟩
                have HLT9 : Hid _ := hlt9
                clear hJ hlt9
                refine wpAnyX_one (i := 6) (by kernel_rfl) rfl (fun K hK => ?_)
                refine step_append_at rfl (.tmp 118) (.tmp 120) 41 rfl (b8 + 3) 25 i0 (.agg #[.slice none 0 0]) 1 24 Try.underlying41 hi0 hz0 hz1 hz2 rfl (by decide) (.slice p0 (sent 0).length k0) _ _ rfl HJ.out.row ⟨W.heap.size, 0, none⟩ 1 1 [.slice xa gn xc] rfl rfl (news1 (alloc_cell W.drew #[.slice xa gn xc] 25 0 rfl)) (by intro u hu; simp at hu; subst hu; rfl) (by unfold maxLen; omega) (by omega) KU.out.kb.sz ?_
                intro v9 w9 own9 grow9 hat9
                have cu0 : (W.drew.alloc (.cells #[.slice xa gn xc] 25)).cell? ⟨b8, 0, none⟩ = some (.slice p0 (sent 0).length k0) := keepC a0 ((Below.refl W.heap.size W).drew.alloc (Nat.le_refl _) (.cells #[.slice xa gn xc] 25))
                have cu1 : (W.drew.alloc (.cells #[.slice xa gn xc] 25)).cell? ⟨w7.heap.size + 1, 0, none⟩ = some (.slice xa gn xc) := keepC xc0 ((Below.refl W.heap.size W).drew.alloc (Nat.le_refl _) (.cells #[.slice xa gn xc] 25))
                have ne0 : some b8 ≠ ((.slice p0 (sent 0).length k0) : Value).ownBlock := fun e => by have := (HLT9.out _ e.symm).1; omega
                have ne1 : some (w7.heap.size + 1) ≠ ((.slice p0 (sent 0).length k0) : Value).ownBlock := fun e => by have := NX.out _ (HLT9.out _ e.symm).2; omega
                have t3 : w9.cell? ⟨b8, 0, none⟩ = some (.slice p0 (sent 0).length k0) := grow9.cell cu0 ne0
                have t4 : w9.cell? ⟨w7.heap.size + 1, 0, none⟩ = some (.slice xa gn xc) := grow9.cell cu1 ne1
                have f9 : w9.frozen? ⟨b8, 0, none⟩ = false := (World.frozen?_of_block (grow9.block _ (World.block_lt_of_cell? _ _ cu0) ne0)).trans ((two_cells KU.out.kb.s8).2.2.1)
                have FIN : Hid _ := KU.out.put_v0 HJ.out (G := G) (by rw [HGNN.out]; exact own9) grow9 hat9 HGC.out HGC0.out H16.out HS2.out (HP2.out.off (OffX.of_below ((Below.refl W.heap.size W).drew.alloc (Nat.le_refl _) (.cells #[.slice xa gn xc] 25))))
                have HO9 : Hid _ := own9
                refine hK.out _ _ ?_ (fun hHeld => ?_)
                · exact ⟨t3, t4⟩
                obtain ⟨va9, vc9, hv9⟩ : ∃ a c, v9 = .slice a ((sent 0).length + 1) c := by
                  rcases HO9.out.2 with ⟨e, e0⟩ | ⟨g5, cap5, cur5, e, _⟩
                  · exact ⟨none, 0, by rw [e, e0]⟩
                  · exact ⟨_, cap5, e⟩
                subst hv9
                clear hK K own9 grow9 hat9 cu0 cu1 ne0 ne1 HO9 HJ HLT9 KU a0 xc0
                try simp [Act.put]
                refine wpAnyX_take (i := 7) (v := ?_) rfl (by kernel_rfl) (by kernel_rfl) (by kernel_rfl) (by kernel_rfl) (fun _ _ _ h => h) (Or.inl ⟨by rfl, ?_⟩) (by assumption) ?_
                rotate_left
                · intro w hSw; (try dsimp only at hSw); first | (go_simp; done) | (go_simp; with_reducible rfl)
                simp [Act.put]
                refine wpAnyX_last (by kernel_rfl) rfl (fun K hK => ?_)
                go_simp
                refine hK.out _ _ ?_
                clear hK K
                try simp [Act.put]
                refine wpAnyX_done (by kernel_rfl) ?_ _
                refine NoPanic.normal ?_
                clear t3 t4 f9
                clear K9 HP2 HS2 H16 HGC0 NX HGC HGNN
                go_wp2_with fail
                refine Calls.mono (kCheck HC.out _ _ _ _ _ _ FIN.out.keep.ok FIN.out.sl FIN.out.pts) ?_
                rintro e wz ⟨rfl, hb⟩
                have KZ : Hid _ := FIN.out.up hb
                clear hb FIN
                go_wp2_with fail
                go_roundg (len - (i + 1))
                case measure => omega
                case rel => exact ⟨i + 1, _, _, _, o, _, _, _, _, _, _, _, by omega, by omega, by go_num, rfl, KZ⟩
              · have hEa : decide (E = 0) = false := decide_eq_false hE
                have hEb : (E == 0) = false := by simp [hE]
                have DK : Hid (∀ W, ClsAt W xa G → _) := fun W hW => gcheck_any xa xc G W HGN.out HGG.out hW
                rw [HGNN.out] at DK
                obtain ⟨pb, po, ep, pc⟩ := K9.out.pts.at 1 (by rw [two_len]; decide)
                subst ep
                obtain ⟨_, _, _, ca, cc, pc3, _, _⟩ := pc
                have pc4 : W.cell? ⟨pb, po + 1 * 5 + 3, none⟩ = some (.slice ca (C 1).length cc) := pc3
                clear pc3 K7
                by_cases hg0 : gcheckE G = 0
                · have h16 : (C 1).length = 16 := hbad hg0
                  rw [hg0] at DK
                  rw [h16] at pc4
                  clear h16 hg0 hbad
                  go_wp2_with fail
                  refine Calls.mono (DK.out _ (HGC.out.below K9.out.below)) ?_
                  rintro e wy ⟨rfl, hb⟩
                  have KY : Hid _ := (K9.out.up hb).next
                  have pc5 := keepC pc4 hb
                  clear hb K9 pc4 xc0
                  go_wp2_with fail
                  refine Calls.mono (kCheck HC.out _ _ _ _ _ _ KY.out.keep.ok KY.out.sl KY.out.pts) ?_
                  rintro e wz ⟨rfl, hb⟩
                  have KZ : Hid _ := KY.out.up hb
                  clear hb KY
                  go_wp2_with fail
                  go_roundg (len - (i + 1))
                  case measure => omega
                  case rel => exact ⟨i + 1, _, _, X, o, C, sent, got, _, _, _, _, by omega, by omega, by go_num, rfl, KZ⟩
                · have hga : decide (gcheckE G = 0) = false := decide_eq_false hg0
                  have hgb : (gcheckE G == 0) = false := by simp [hg0]
                  clear hg0 hbad
                  generalize gcheckE G = GE at *
                  go_wp2_with fail
                  refine Calls.mono (DK.out _ (HGC.out.below K9.out.below)) ?_
                  rintro e wy ⟨rfl, hb⟩
                  have KY : Hid _ := (K9.out.up hb).next
                  clear hb K9 pc4 xc0
                  go_wp2_with fail
                  refine Calls.mono (kCheck HC.out _ _ _ _ _ _ KY.out.keep.ok KY.out.sl KY.out.pts) ?_
                  rintro e wz ⟨rfl, hb⟩
                  have KZ : Hid _ := KY.out.up hb
                  clear hb KY
                  go_wp2_with fail
                  go_roundg (len - (i + 1))
                  case measure => omega
                  case rel => exact ⟨i + 1, _, _, X, o, C, sent, got, _, _, _, _, by omega, by omega, by go_num, rfl, KZ⟩
        · as_aux_lemma =>
            by_cases hgl0 : gl = 0
            · subst hgl0
              go_wp2_with fail
              go_roundg (len - (i + 1))
              case measure => omega
              case rel => exact ⟨i + 1, _, _, X, o, C, sent, got, _, _, _, _, by omega, by omega, by go_num, rfl, (K7.out.up (one_belowS _ _)).next⟩
            · obtain ⟨j, hj2⟩ : ∃ j : Nat, i % gl = j := ⟨_, rfl⟩
              have hjl : j < gl := by rw [← hj2]; exact Nat.mod_lt _ (by omega)
              have hj1 : (i : Int) % (gl : Int) = (j : Int) := by rw [← hj2]; simp
              have hjl2 : (j : Int) < (gl : Int) := by omega
              have y1 : decide ((gl : Int) = 0) = false := decide_eq_false (by omega)
              have y2 : ((gl : Int) == 0) = false := by simp; omega
              have y3 : decide (gl = 0) = false := decide_eq_false hgl0
              obtain ⟨gb, gof, xa, xc, eg, gcell, gcl⟩ := HG.out j (by rw [HGL.out]; exact hjl)
              obtain ⟨hGn, hGb⟩ := HGB.out j (by rw [HGL.out]; exact hjl)
              subst eg
              generalize gr GS j = G at *
              have HGN : Hid (G.length ≤ 9223372036854775807) := hGn
              have HGG : Hid (BigC G) := hGb
              have HGC : Hid (ClsAt w xa G) := gcl
              have gcell7 := keepC gcell K7.out.below
              have hgb7 : gb < w7.heap.size := World.block_lt_of_cell? _ _ gcell7
              clear gcl hGb hGn gcell
              obtain ⟨gn, hgn⟩ : ∃ z, G.length = z := ⟨_, rfl⟩
              have HGNN : Hid (G.length = gn) := hgn
              rw [hgn] at gcell7
              have DU : Hid (∀ W, KI w b8 W X va vc o C sent got (.slice p0 (sent 0).length k0) (.slice p1 (sent 1).length k1) (.slice q0 (got 0).length l0) (.slice q1 (got 1).length l1) i → _) := fun W hW => kPush HU.out X va vc o C 0 xa xc G W hW.keep.ok (by decide) hW.sl hW.pts hW.kb.xlt HGN.out HGG.out (HGC.out.below hW.below)
              rw [hgn] at DU
              clear hgn
              go_wp2_with fail
              have K8 : Hid (KI w b8 _ X va vc o C sent got (.slice p0 (sent 0).length k0) (.slice p1 (sent 1).length k1) (.slice q0 (got 0).length l0) (.slice q1 (got 1).length l1) i) := K7.out.up (two_belowS w7 (.cells #[.slice za zn zc] 25) (.cells #[.slice xa gn xc] 25))
              refine Calls.mono (DU.out _ K8.out) ?_
              rintro e W ⟨va2, vc2, n2, E, rfl, hb, hor⟩
              have K9 : Hid (KI w b8 W X va vc o C sent got (.slice p0 (sent 0).length k0) (.slice p1 (sent 1).length k1) (.slice q0 (got 0).length l0) (.slice q1 (got 1).length l1) i) := K8.out.up hb
              have xc0 : W.cell? ⟨w7.heap.size + 1, 0, none⟩ = some (.slice xa gn xc) := keepC (alloc_cell2 w7 #[.slice xa gn xc] 25 0 (.cells #[.slice za zn zc] 25) rfl) hb
              have NX : Hid (∀ b, X b → b < w7.heap.size + 1) := fun b hx => Nat.lt_succ_of_lt (K7.out.kb.xlt b hx)
              clear hb K8 DU gcell7 hgb7
              rcases hor with ⟨rfl, rfl, hsl2, hgc, h16, hpt⟩ | ⟨hE, hbad⟩
              · have HP2 : Hid (PtsSt X W va2 _) := hpt
                have HS2 : Hid (SlA va2 2 vc2) := hsl2
                have H16 : Hid ((C 1).length ≠ 16) := h16
                have HGC0 : Hid (gcheckE G = 0) := hgc
                have a0 : W.cell? ⟨b8, 0, none⟩ = some (.slice p0 (sent 0).length k0) := (two_cells K9.out.kb.s8).1
                clear hpt hsl2 h16 hgc K7
                go_wp2_with fail
                refine wp_region_noPanic ?_
                refine wp_region_X (S := fun w'' => w''.cell? ⟨b8, 0, none⟩ = some (.slice p0 (sent 0).length k0) ∧ w''.cell? ⟨w7.heap.size + 1, 0, none⟩ = some (.slice xa gn xc)) 8 (by kernel_rfl) (by (try dsimp only); go_keep) (fun hHeld => ?_)
                refine wpAnyX_take (i := 0) (v := ?_) rfl (by kernel_rfl) (by kernel_rfl) (by kernel_rfl) (by kernel_rfl) (fun _ _ _ h => h) (Or.inl ⟨by rfl, ?_⟩) (by assumption) ?_
                rotate_left
                · intro w hSw; (try dsimp only at hSw); first | (go_simp; done) | (go_simp; with_reducible rfl)
                simp [Act.put]
                refine wpAnyX_take (i := 1) (v := ?_) rfl (by kernel_rfl) (by kernel_rfl) (by kernel_rfl) (by kernel_rfl) (fun _ _ _ h => h) (Or.inl ⟨by rfl, ?_⟩) (by assumption) ?_
                rotate_left
                · intro w hSw; (try dsimp only at hSw); first | (go_simp; done) | (go_simp; with_reducible rfl)
                simp [Act.put]
                refine wpAnyX_take (i := 2) (v := ?_) rfl (by kernel_rfl) (by kernel_rfl) (by kernel_rfl) (by kernel_rfl) (fun _ _ _ h => h) (Or.inl ⟨by rfl, ?_⟩) (by assumption) ?_
                rotate_left
                · intro w hSw; (try dsimp only at hSw); first | (go_simp; done) | (go_simp; with_reducible rfl)
                simp [Act.put]
                refine wpAnyX_take (i := 3) (v := ?_) rfl (by kernel_rfl) (by kernel_rfl) (by kernel_rfl) (by kernel_rfl) (fun _ _ _ h => h) (Or.inl ⟨by rfl, ?_⟩) (by assumption) ?_
                rotate_left
                · intro w hSw; (try dsimp only at hSw); first | (go_simp; done) | (go_simp; with_reducible rfl)
                simp [Act.put]
                refine wpAnyX_take (i := 4) (v := ?_) rfl (by kernel_rfl) (by kernel_rfl) (by kernel_rfl) (by kernel_rfl) (fun _ _ _ h => h) (Or.inl ⟨by rfl, ?_⟩) (by assumption) ?_
                rotate_left
                · intro w hSw; (try dsimp only at hSw); first | (go_simp; done) | (go_simp; with_reducible rfl)
                simp [Act.put]
                refine wpAnyX_one (i := 5) (by kernel_rfl) rfl (fun K hK => ?_)
                go_simp
                refine hK.out _ _ ?_ (fun hHeld => ?_)
                · (try dsimp only)
                  exact ⟨keepC a0 ((Below.refl W.heap.size W).drew.alloc (Nat.le_refl _) (.cells #[.slice xa gn xc] 25)), keepC xc0 ((Below.refl W.heap.size W).drew.alloc (Nat.le_refl _) (.cells #[.slice xa gn xc] 25))⟩
                clear hK K
                try simp [Act.put]
                have KU : Hid (KI w b8 (W.drew.alloc (.cells #[.slice xa gn xc] 25)) X va vc o C sent got (.slice p0 (sent 0).length k0) (.slice p1 (sent 1).length k1) (.slice q0 (got 0).length l0) (.slice q1 (got 1).length l1) i) := K9.out.up ((Below.refl W.heap.size W).drew.alloc (Nat.le_refl _) (.cells #[.slice xa gn xc] 25))
                obtain ⟨J, hJ⟩ := KU.out.kb.r0
                have HJ : Hid _ := hJ
                have hlt9 : ∀ b, ((.slice p0 (sent 0).length k0) : Value).ownBlock = some b → b8 + 3 ≤ b ∧ X b := fun b hb => ⟨(hJ.row.lt b hb).1, KU.out.kb.own (.slice p0 (sent 0).length k0) (by simp) b hb⟩
                have HLT9 : Hid _ := hlt9
                clear hJ hlt9
                refine wpAnyX_one (i := 6) (by kernel_rfl) rfl (fun K hK => ?_)
                refine step_append_at rfl (.tmp 118) (.tmp 120) 41 rfl (b8 + 3) 25 i0 (.agg #[.slice none 0 0]) 1 24 Try.underlying41 hi0 hz0 hz1 hz2 rfl (by decide) (.slice p0 (sent 0).length k0) _ _ rfl HJ.out.row ⟨W.heap.size, 0, none⟩ 1 1 [.slice xa gn xc] rfl rfl (news1 (alloc_cell W.drew #[.slice xa gn xc] 25 0 rfl)) (by intro u hu; simp at hu; subst hu; rfl) (by unfold maxLen; omega) (by omega) KU.out.kb.sz ?_
                intro v9 w9 own9 grow9 hat9
                have cu0 : (W.drew.alloc (.cells #[.slice xa gn xc] 25)).cell? ⟨b8, 0, none⟩ = some (.slice p0 (sent 0).length k0) := keepC a0 ((Below.refl W.heap.size W).drew.alloc (Nat.le_refl _) (.cells #[.slice xa gn xc] 25))
                have cu1 : (W.drew.alloc (.cells #[.slice xa gn xc] 25)).cell? ⟨w7.heap.size + 1, 0, none⟩ = some (.slice xa gn xc) := keepC xc0 ((Below.refl W.heap.size W).drew.alloc (Nat.le_refl _) (.cells #[.slice xa gn xc] 25))
                have ne0 : some b8 ≠ ((.slice p0 (sent 0).length k0) : Value).ownBlock := fun e => by have := (HLT9.out _ e.symm).1; omega
                have ne1 : some (w7.heap.size + 1) ≠ ((.slice p0 (sent 0).length k0) : Value).ownBlock := fun e => by have := NX.out _ (HLT9.out _ e.symm).2; omega
                have t3 : w9.cell? ⟨b8, 0, none⟩ = some (.slice p0 (sent 0).length k0) := grow9.cell cu0 ne0
                have t4 : w9.cell? ⟨w7.heap.size + 1, 0, none⟩ = some (.slice xa gn xc) := grow9.cell cu1 ne1
                have f9 : w9.frozen? ⟨b8, 0, none⟩ = false := (World.frozen?_of_block (grow9.block _ (World.block_lt_of_cell? _ _ cu0) ne0)).trans ((two_cells KU.out.kb.s8).2.2.1)
                have FIN : Hid _ := KU.out.put_v0 HJ.out (G := G) (by rw [HGNN.out]; exact own9) grow9 hat9 HGC.out HGC0.out H16.out HS2.out (HP2.out.off (OffX.of_below ((Below.refl W.heap.size W).drew.alloc (Nat.le_refl _) (.cells #[.slice xa gn xc] 25))))
                have HO9 : Hid _ := own9
                refine hK.out _ _ ?_ (fun hHeld => ?_)
                · exact ⟨t3, t4⟩
                obtain ⟨va9, vc9, hv9⟩ : ∃ a c, v9 = .slice a ((sent 0).length + 1) c := by
                  rcases HO9.out.2 with ⟨e, e0⟩ | ⟨g5, cap5, cur5, e, _⟩
                  · exact ⟨none, 0, by rw [e, e0]⟩
                  · exact ⟨_, cap5, e⟩
                subst hv9
                clear hK K own9 grow9 hat9 cu0 cu1 ne0 ne1 HO9 HJ HLT9 KU a0 xc0
                try simp [Act.put]
                refine wpAnyX_take (i := 7) (v := ?_) rfl (by kernel_rfl) (by kernel_rfl) (by kernel_rfl) (by kernel_rfl) (fun _ _ _ h => h) (Or.inl ⟨by rfl, ?_⟩) (by assumption) ?_
                rotate_left
                · intro w hSw; (try dsimp only at hSw); first | (go_simp; done) | (go_simp; with_reducible rfl)
                simp [Act.put]
                refine wpAnyX_last (by kernel_rfl) rfl (fun K hK => ?_)
                go_simp
                refine hK.out _ _ ?_
                clear hK K
                try simp [Act.put]
                refine wpAnyX_done (by kernel_rfl) ?_ _
                refine NoPanic.normal ?_
                clear t3 t4 f9
                clear K9 HP2 HS2 H16 HGC0 NX HGC HGNN
                go_wp2_with fail
                refine Calls.mono (kCheck HC.out _ _ _ _ _ _ FIN.out.keep.ok FIN.out.sl FIN.out.pts) ?_
                rintro e wz ⟨rfl, hb⟩
                have KZ : Hid _ := FIN.out.up hb
                clear hb FIN
                go_wp2_with fail
                go_roundg (len - (i + 1))
                case measure => omega
                case rel => exact ⟨i + 1, _, _, _, o, _, _, _, _, _, _, _, by omega, by omega, by go_num, rfl, KZ⟩
              · have hEa : decide (E = 0) = false := decide_eq_false hE
                have hEb : (E == 0) = false := by simp [hE]
                have DK : Hid (∀ W, ClsAt W xa G → _) := fun W hW => gcheck_any xa xc G W HGN.out HGG.out hW
                rw [HGNN.out] at DK
                obtain ⟨pb, po, ep, pc⟩ := K9.out.pts.at 1 (by rw [two_len]; decide)
                subst ep
                obtain ⟨_, _, _, ca, cc, pc3, _, _⟩ := pc
                have pc4 : W.cell? ⟨pb, po + 1 * 5 + 3, none⟩ = some (.slice ca (C 1).length cc) := pc3
                clear pc3 K7
                by_cases hg0 : gcheckE G = 0
                · have h16 : (C 1).length = 16 := hbad hg0
                  rw [hg0] at DK
                  rw [h16] at pc4
                  clear h16 hg0 hbad
                  go_wp2_with fail
                  refine Calls.mono (DK.out _ (HGC.out.below K9.out.below)) ?_
                  rintro e wy ⟨rfl, hb⟩
                  have KY : Hid _ := (K9.out.up hb).next
                  have pc5 := keepC pc4 hb
                  clear hb K9 pc4 xc0
                  go_wp2_with fail
                  refine Calls.mono (kCheck HC.out _ _ _ _ _ _ KY.out.keep.ok KY.out.sl KY.out.pts) ?_
                  rintro e wz ⟨rfl, hb⟩
                  have KZ : Hid _ := KY.out.up hb
                  clear hb KY
                  go_wp2_with fail
                  go_roundg (len - (i + 1))
                  case measure => omega
                  case rel => exact ⟨i + 1, _, _, X, o, C, sent, got, _, _, _, _, by omega, by omega, by go_num, rfl, KZ⟩
                · have hga : decide (gcheckE G = 0) = false := decide_eq_false hg0
                  have hgb : (gcheckE G == 0) = false := by simp [hg0]
                  clear hg0 hbad
                  generalize gcheckE G = GE at *
                  go_wp2_with fail
                  refine Calls.mono (DK.out _ (HGC.out.below K9.out.below)) ?_
                  rintro e wy ⟨rfl, hb⟩
                  have KY : Hid _ := (K9.out.up hb).next
                  clear hb K9 pc4 xc0
                  go_wp2_with fail
                  refine Calls.mono (kCheck HC.out _ _ _ _ _ _ KY.out.keep.ok KY.out.sl KY.out.pts) ?_
                  rintro e wz ⟨rfl, hb⟩
                  have KZ : Hid _ := KY.out.up hb
                  clear hb KY
                  go_wp2_with fail
                  go_roundg (len - (i + 1))
                  case measure => omega
                  case rel => exact ⟨i + 1, _, _, X, o, C, sent, got, _, _, _, _, by omega, by omega, by go_num, rfl, KZ⟩
        · as_aux_lemma =>
            have DL : Hid (∀ W, KI w b8 W X va vc o C sent got (.slice p0 (sent 0).length k0) (.slice p1 (sent 1).length k1) (.slice q0 (got 0).length l0) (.slice q1 (got 1).length l1) i → _) := fun W hW => kPull HPl.out X va vc o C 0 W hW.keep.ok (by decide) hW.sl hW.pts hW.kb.xlt
            go_wp2_with fail
            have K8 : Hid (KI w b8 _ X va vc o C sent got (.slice p0 (sent 0).length k0) (.slice p1 (sent 1).length k1) (.slice q0 (got 0).length l0) (.slice q1 (got 1).length l1) i) := K7.out.up (one_belowS w7 (.cells #[.slice za zn zc] 25))
            refine Calls.mono (DL.out _ K8.out) ?_
            rintro e w9 ⟨va2, vc2, n2, xa, xc, gn, E, rfl, hb, hor⟩
            have K9 : Hid (KI w b8 w9 X va vc o C sent got (.slice p0 (sent 0).length k0) (.slice p1 (sent 1).length k1) (.slice q0 (got 0).length l0) (.slice q1 (got 1).length l1) i) := K8.out.up hb
            have NX : Hid (∀ b, X b → b < w9.heap.size) := fun b hx => K9.out.kb.xlt b hx
            have KV : Hid (KI w b8 (w9.alloc (.cells #[.slice xa gn xc] 25)) X va vc o C sent got (.slice p0 (sent 0).length k0) (.slice p1 (sent 1).length k1) (.slice q0 (got 0).length l0) (.slice q1 (got 1).length l1) i) := K9.out.up (one_belowS _ _)
            have xc1 : (w9.alloc (.cells #[.slice xa gn xc] 25)).cell? ⟨w9.heap.size, 0, none⟩ = some (.slice xa gn xc) := alloc_cell w9 _ _ 0 rfl
            have a9 : (w9.alloc (.cells #[.slice xa gn xc] 25)).cell? ⟨b8 + 1, 0, none⟩ = some (.slice q0 (got 0).length l0) := (two_cells KV.out.kb.s9).1
            have a8 : (w9.alloc (.cells #[.slice xa gn xc] 25)).cell? ⟨b8, 1, none⟩ = some (.slice p1 (sent 1).length k1) := (two_cells KV.out.kb.s8).2.1
            have cnt : (sent 1).length = (got 0).length + (C 0).length := K9.out.keep.count (s := 0) (by decide)
            clear hb K8 DL K7
            rcases hor with ⟨rfl, rfl, hsl2, h0, hgn, hpt, hcl⟩ | ⟨rfl, h0⟩
            · have hlt9 : ((got 0).length : Int) < ((sent 1).length : Int) := by omega
              have HP2 : Hid (PtsSt X w9 va2 _) := hpt
              have HS2 : Hid (SlA va2 2 vc2) := hsl2
              have H0 : Hid ((C 0).length ≠ 0) := h0
              have HGNN : Hid (gn = (gr (C 0) 0).length) := hgn
              have HCL : Hid (ClsSt X w9 xa _) := hcl
              clear hpt hsl2 h0 hgn hcl cnt
              go_wp2_with fail
              obtain ⟨V, hV⟩ : ∃ V, (w9.alloc (.cells #[.slice xa gn xc] 25)) = V := ⟨_, rfl⟩
              have OV : Hid (Below w9.heap.size w9 V) := by rw [← hV]; exact one_belowS _ _
              rw [hV] at KV xc1 a9 a8 ⊢
              clear hV
              go_big_quiet (fail)
              go_wp2_with fail
              have KW : Hid (KI w b8 (V.drewN nq) X va vc o C sent got (.slice p0 (sent 0).length k0) (.slice p1 (sent 1).length k1) (.slice q0 (got 0).length l0) (.slice q1 (got 1).length l1) i) := KV.out.drewN nq
              have OVW : Hid (Below w9.heap.size w9 (V.drewN nq)) := ⟨OV.out.os, OV.out.tape, OV.out.output, OV.out.size, OV.out.block⟩
              have xc0 : (V.drewN nq).cell? ⟨w9.heap.size, 0, none⟩ = some (.slice xa gn xc) := xc1
              have a0 : (V.drewN nq).cell? ⟨b8 + 1, 0, none⟩ = some (.slice q0 (got 0).length l0) := a9
              obtain ⟨W, hW⟩ : ∃ W, V.drewN nq = W := ⟨_, rfl⟩
              rw [hW] at KW OVW xc0 a0 ⊢
              clear hW KV OV xc1 a9 a8 K9
              refine wp_region_noPanic ?_
              refine wp_region_X (S := fun w'' => w''.cell? ⟨(b8 + 1), 0, none⟩ = some (.slice q0 (got 0).length l0) ∧ w''.cell? ⟨w9.heap.size, 0, none⟩ = some (.slice xa gn xc)) 8 (by kernel_rfl) (by (try dsimp only); go_keep) (fun hHeld => ?_)
              refine wpAnyX_take (i := 0) (v := ?_) rfl (by kernel_rfl) (by kernel_rfl) (by kernel_rfl) (by kernel_rfl) (fun _ _ _ h => h) (Or.inl ⟨by rfl, ?_⟩) (by assumption) ?_
              rotate_left
              · intro w hSw; (try dsimp only at hSw); first | (go_simp; done) | (go_simp; with_reducible rfl)
              simp [Act.put]
              refine wpAnyX_take (i := 1) (v := ?_) rfl (by kernel_rfl) (by kernel_rfl) (by kernel_rfl) (by kernel_rfl) (fun _ _ _ h => h) (Or.inl ⟨by rfl, ?_⟩) (by assumption) ?_
              rotate_left
              · intro w hSw; (try dsimp only at hSw); first | (go_simp; done) | (go_simp; with_reducible rfl)
              simp [Act.put]
              refine wpAnyX_take (i := 2) (v := ?_) rfl (by kernel_rfl) (by kernel_rfl) (by kernel_rfl) (by kernel_rfl) (fun _ _ _ h => h) (Or.inl ⟨by rfl, ?_⟩) (by assumption) ?_
              rotate_left
              · intro w hSw; (try dsimp only at hSw); first | (go_simp; done) | (go_simp; with_reducible rfl)
              simp [Act.put]
              refine wpAnyX_take (i := 3) (v := ?_) rfl (by kernel_rfl) (by kernel_rfl) (by kernel_rfl) (by kernel_rfl) (fun _ _ _ h => h) (Or.inl ⟨by rfl, ?_⟩) (by assumption) ?_
              rotate_left
              · intro w hSw; (try dsimp only at hSw); first | (go_simp; done) | (go_simp; with_reducible rfl)
              simp [Act.put]
              refine wpAnyX_take (i := 4) (v := ?_) rfl (by kernel_rfl) (by kernel_rfl) (by kernel_rfl) (by kernel_rfl) (fun _ _ _ h => h) (Or.inl ⟨by rfl, ?_⟩) (by assumption) ?_
              rotate_left
              · intro w hSw; (try dsimp only at hSw); first | (go_simp; done) | (go_simp; with_reducible rfl)
              simp [Act.put]
              refine wpAnyX_one (i := 5) (by kernel_rfl) rfl (fun K hK => ?_)
              go_simp
              refine hK.out _ _ ?_ (fun hHeld => ?_)
              · (try dsimp only)
                exact ⟨keepC a0 ((Below.refl W.heap.size W).drew.alloc (Nat.le_refl _) (.cells #[.slice xa gn xc] 25)), keepC xc0 ((Below.refl W.heap.size W).drew.alloc (Nat.le_refl _) (.cells #[.slice xa gn xc] 25))⟩
              clear hK K
              try simp [Act.put]
              have KU : Hid (KI w b8 (W.drew.alloc (.cells #[.slice xa gn xc] 25)) X va vc o C sent got (.slice p0 (sent 0).length k0) (.slice p1 (sent 1).length k1) (.slice q0 (got 0).length l0) (.slice q1 (got 1).length l1) i) := KW.out.up ((Below.refl W.heap.size W).drew.alloc (Nat.le_refl _) (.cells #[.slice xa gn xc] 25))
              obtain ⟨J, hJ⟩ := KU.out.kb.q0
              have HJ : Hid _ := hJ
              have hlt9 : ∀ b, ((.slice q0 (got 0).length l0) : Value).ownBlock = some b → b8 + 3 ≤ b ∧ X b := fun b hb => ⟨(hJ.row.lt b hb).1, KU.out.kb.own (.slice q0 (got 0).length l0) (by simp) b hb⟩
              have HLT9 : Hid _ := hlt9
              clear hJ hlt9
              refine wpAnyX_one (i := 6) (by kernel_rfl) rfl (fun K hK => ?_)
              refine step_append_at rfl (.tmp 167) (.tmp 169) 41 rfl (b8 + 3) 25 i0 (.agg #[.slice none 0 0]) 1 24 Try.underlying41 hi0 hz0 hz1 hz2 rfl (by decide) (.slice q0 (got 0).length l0) _ _ rfl HJ.out.row ⟨W.heap.size, 0, none⟩ 1 1 [.slice xa gn xc] rfl rfl (news1 (alloc_cell W.drew #[.slice xa gn xc] 25 0 rfl)) (by intro u hu; simp at hu; subst hu; rfl) (by unfold maxLen; omega) (by omega) KU.out.kb.sz ?_
              intro v9 wB own9 grow9 hat9
              have cu0 : (W.drew.alloc (.cells #[.slice xa gn xc] 25)).cell? ⟨(b8 + 1), 0, none⟩ = some (.slice q0 (got 0).length l0) := keepC a0 ((Below.refl W.heap.size W).drew.alloc (Nat.le_refl _) (.cells #[.slice xa gn xc] 25))
              have cu1 : (W.drew.alloc (.cells #[.slice xa gn xc] 25)).cell? ⟨w9.heap.size, 0, none⟩ = some (.slice xa gn xc) := keepC xc0 ((Below.refl W.heap.size W).drew.alloc (Nat.le_refl _) (.cells #[.slice xa gn xc] 25))
              have ne0 : some (b8 + 1) ≠ ((.slice q0 (got 0).length l0) : Value).ownBlock := fun e => by have := (HLT9.out _ e.symm).1; omega
              have ne1 : some (w9.heap.size) ≠ ((.slice q0 (got 0).length l0) : Value).ownBlock := fun e => by have := NX.out _ (HLT9.out _ e.symm).2; omega
              have t3 : wB.cell? ⟨(b8 + 1), 0, none⟩ = some (.slice q0 (got 0).length l0) := grow9.cell cu0 ne0
              have t4 : wB.cell? ⟨w9.heap.size, 0, none⟩ = some (.slice xa gn xc) := grow9.cell cu1 ne1
              have f9 : wB.frozen? ⟨(b8 + 1), 0, none⟩ = false := (World.frozen?_of_block (grow9.block _ (World.block_lt_of_cell? _ _ cu0) ne0)).trans ((two_cells KU.out.kb.s9).2.2.1)
              have FIN : Hid _ := KU.out.put_g0 HJ.out (by rw [← HGNN.out]; exact own9) grow9 hat9 (HCL.out.off (OffX.of_below (OVW.out.trans (((Below.refl W.heap.size W).drew.alloc (Nat.le_refl _) (.cells #[.slice xa gn xc] 25)).mono OVW.out.size)))) H0.out HS2.out (HP2.out.off (OffX.of_below (OVW.out.trans (((Below.refl W.heap.size W).drew.alloc (Nat.le_refl _) (.cells #[.slice xa gn xc] 25)).mono OVW.out.size))))
              have HO9 : Hid _ := own9
              refine hK.out _ _ ?_ (fun hHeld => ?_)
              · exact ⟨t3, t4⟩
              obtain ⟨va9, vc9, hv9⟩ : ∃ a c, v9 = .slice a ((got 0).length + 1) c := by
                rcases HO9.out.2 with ⟨e, e0⟩ | ⟨g5, cap5, cur5, e, _⟩
                · exact ⟨none, 0, by rw [e, e0]⟩
                · exact ⟨_, cap5, e⟩
              subst hv9
              clear hK K own9 grow9 hat9 cu0 cu1 ne0 ne1 HO9 HJ HLT9 KU a0 xc0
              try simp [Act.put]
              refine wpAnyX_take (i := 7) (v := ?_) rfl (by kernel_rfl) (by kernel_rfl) (by kernel_rfl) (by kernel_rfl) (fun _ _ _ h => h) (Or.inl ⟨by rfl, ?_⟩) (by assumption) ?_
              rotate_left
              · intro w hSw; (try dsimp only at hSw); first | (go_simp; done) | (go_simp; with_reducible rfl)
              simp [Act.put]
              refine wpAnyX_last (by kernel_rfl) rfl (fun K hK => ?_)
              go_simp
              refine hK.out _ _ ?_
              clear hK K
              try simp [Act.put]
              refine wpAnyX_done (by kernel_rfl) ?_ _
              refine NoPanic.normal ?_
              clear t3 t4 f9
              clear KW HP2 HS2 H0 HCL NX HGNN OVW
              go_wp2_with fail
              refine Calls.mono (kCheck HC.out _ _ _ _ _ _ FIN.out.keep.ok FIN.out.sl FIN.out.pts) ?_
              rintro e wz ⟨rfl, hb⟩
              have KZ : Hid _ := FIN.out.up hb
              clear hb FIN
              go_wp2_with fail
              go_roundg (len - (i + 1))
              case measure => omega
              case rel => exact ⟨i + 1, _, _, _, o, _, _, _, _, _, _, _, by omega, by omega, by go_num, rfl, KZ⟩
            · have hl : (sent 1).length = (got 0).length := by omega
              rw [hl] at a8
              clear hl cnt h0 K9
              go_wp2_with fail
              obtain ⟨V, hV⟩ : ∃ V, (w9.alloc (.cells #[.slice xa gn xc] 25)) = V := ⟨_, rfl⟩
              rw [hV] at KV xc1 a9 a8 ⊢
              clear hV
              go_big_quiet (fail)
              go_wp2_with fail
              have KD : Hid (KI w b8 (V.drewN nq) X va vc o C sent got (.slice p0 (sent 0).length k0) (.slice p1 (sent 1).length k1) (.slice q0 (got 0).length l0) (.slice q1 (got 1).length l1) (i + 1)) := (KV.out.drewN nq).next
              clear KV xc1 a9 a8
              refine Calls.mono (kCheck HC.out _ _ _ _ _ _ KD.out.keep.ok KD.out.sl KD.out.pts) ?_
              rintro e wz ⟨rfl, hb⟩
              have KZ : Hid _ := KD.out.up hb
              clear hb KD
              go_wp2_with fail
              go_roundg (len - (i + 1))
              case measure => omega
              case rel => exact ⟨i + 1, _, _, X, o, C, sent, got, _, _, _, _, by omega, by omega, by go_num, rfl, KZ⟩
        · as_aux_lemma =>
            have hx : 0 ≤ (o 0 + 2) % 3 ∧ (o 0 + 2) % 3 ≤ 2 := by omega
            have HX : Hid _ := hx
            have DQ : Hid (∀ W, KI w b8 W X va vc o C sent got (.slice p0 (sent 0).length k0) (.slice p1 (sent 1).length k1) (.slice q0 (got 0).length l0) (.slice q1 (got 1).length l1) i → _) := fun W hW => kPass HP.out X va vc o C 0 ((o 0 + 2) % 3) W hW.keep.ok (by decide) HX.out hW.sl hW.pts hW.kb.xlt
            clear hx
            go_wp2_with fail
            have K8 : Hid (KI w b8 _ X va vc o C sent got (.slice p0 (sent 0).length k0) (.slice p1 (sent 1).length k1) (.slice q0 (got 0).length l0) (.slice q1 (got 1).length l1) i) := K7.out.up (one_belowS w7 (.cells #[.slice za zn zc] 25))
            refine Calls.mono (DQ.out _ K8.out) ?_
            rintro e w9 ⟨va2, vc2, rfl, hb, hsl2, hpt⟩
            have K9 : Hid (KI w b8 w9 X va vc o C sent got (.slice p0 (sent 0).length k0) (.slice p1 (sent 1).length k1) (.slice q0 (got 0).length l0) (.slice q1 (got 1).length l1) i) := K8.out.up hb
            have a0 : w9.cell? ⟨b8 + 1 + 1, 0, none⟩ = some (.int .i64 (o 0)) := (two_cells K9.out.kb.s10).1
            have f0 : w9.frozen? ⟨b8 + 1 + 1, 0, none⟩ = false := (two_cells K9.out.kb.s10).2.2.1
            have FIN : Hid _ := K9.out.pass0 HX.out hsl2 hpt
            clear hb K7 K8 K9 DQ HX hsl2 hpt
            go_wp2_with fail
            refine Calls.mono (kCheck HC.out _ _ _ _ _ _ FIN.out.keep.ok FIN.out.sl FIN.out.pts) ?_
            rintro e wz ⟨rfl, hb⟩
            have KZ : Hid _ := FIN.out.up hb
            clear hb FIN
            go_wp2_with fail
            go_roundg (len - (i + 1))
            case measure => omega
            case rel => exact ⟨i + 1, _, _, _, _, _, _, _, _, _, _, _, by omega, by omega, by go_num, rfl, KZ⟩
      · have hoa := KR.out.keep.ok.own 1 (by decide)
        obtain ⟨hoa1, hoa2⟩ := hoa
        clear c0 HZr
        go_wp2_with fail
        go_big_quiet (fail)
        go_wp2_with fail
        refine Calls.mono (kShut HS.out X va vc o C 1 _ _ KR.out.keep.ok (by decide) ?hx KR.out.sl (KR.out.drewN _).pts (KR.out.drewN _).kb.xlt) ?_
        case hx => omega
        rintro e w6 ⟨ya, yc, yn, rfl, hb⟩
        have K6 : Hid (KI w b8 w6 X va vc o C sent got (.slice p0 (sent 0).length k0) (.slice p1 (sent 1).length k1) (.slice q0 (got 0).length l0) (.slice q1 (got 1).length l1) i) := (KR.out.drewN _).up hb
        clear hb KR c1
        go_wp2_with fail
        refine Calls.mono (kPullNo HPl.out X va vc o C 1 _ _ K6.out.keep.ok (by decide) K6.out.sl K6.out.pts K6.out.kb.xlt) ?_
        rintro e w7 ⟨ya, yc, yn, za, zc, zn, rfl, hb⟩
        have K7 : Hid (KI w b8 w7 X va vc o C sent got (.slice p0 (sent 0).length k0) (.slice p1 (sent 1).length k1) (.slice q0 (got 0).length l0) (.slice q1 (got 1).length l1) i) := K6.out.up hb
        clear hb K6
        rcases hwh with rfl | rfl | rfl | rfl
        · as_aux_lemma =>
            by_cases hgl0 : gl = 0
            · subst hgl0
              go_wp2_with fail
              go_roundg (len - (i + 1))
              case measure => omega
              case rel => exact ⟨i + 1, _, _, X, o, C, sent, got, _, _, _, _, by omega, by omega, by go_num, rfl, (K7.out.up (one_belowS _ _)).next⟩
            · obtain ⟨j, hj2⟩ : ∃ j : Nat, i % gl = j := ⟨_, rfl⟩
              have hjl : j < gl := by rw [← hj2]; exact Nat.mod_lt _ (by omega)
              have hj1 : (i : Int) % (gl : Int) = (j : Int) := by rw [← hj2]; simp
              have hjl2 : (j : Int) < (gl : Int) := by omega
              have y1 : decide ((gl : Int) = 0) = false := decide_eq_false (by omega)
              have y2 : ((gl : Int) == 0) = false := by simp; omega
              have y3 : decide (gl = 0) = false := decide_eq_false hgl0
              obtain ⟨gb, gof, xa, xc, eg, gcell, gcl⟩ := HG.out j (by rw [HGL.out]; exact hjl)
              obtain ⟨hGn, hGb⟩ := HGB.out j (by rw [HGL.out]; exact hjl)
              subst eg
              generalize gr GS j = G at *
              have HGN : Hid (G.length ≤ 9223372036854775807) := hGn
              have HGG : Hid (BigC G) := hGb
              have HGC : Hid (ClsAt w xa G) := gcl
              have gcell7 := keepC gcell K7.out.below
              have hgb7 : gb < w7.heap.size := World.block_lt_of_cell? _ _ gcell7
              clear gcl hGb hGn gcell
              obtain ⟨gn, hgn⟩ : ∃ z, G.length = z := ⟨_, rfl⟩
              have HGNN : Hid (G.length = gn) := hgn
              rw [hgn] at gcell7
              have DU : Hid (∀ W, KI w b8 W X va vc o C sent got (.slice p0 (sent 0).length k0) (.slice p1 (sent 1).length k1) (.slice q0 (got 0).length l0) (.slice q1 (got 1).length l1) i → _) := fun W hW => kPush HU.out X va vc o C 1 xa xc G W hW.keep.ok (by decide) hW.sl hW.pts hW.kb.xlt HGN.out HGG.out (HGC.out.below hW.below)
              rw [hgn] at DU
              clear hgn
              go_wp2_with fail
              have K8 : Hid (KI w b8 _ X va vc o C sent got (.slice p0 (sent 0).length k0) (.slice p1 (sent 1).length k1) (.slice q0 (got 0).length l0) (.slice q1 (got 1).length l1) i) := K7.out.up (two_belowS w7 (.cells #[.slice za zn zc] 25) (.cells #[.slice xa gn xc] 25))
              refine Calls.mono (DU.out _ K8.out) ?_
              rintro e W ⟨va2, vc2, n2, E, rfl, hb, hor⟩
              have K9 : Hid (KI w b8 W X va vc o C sent got (.slice p0 (sent 0).length k0) (.slice p1 (sent 1).length k1) (.slice q0 (got 0).length l0) (.slice q1 (got 1).length l1) i) := K8.out.up hb
              have xc0 : W.cell? ⟨w7.heap.size + 1, 0, none⟩ = some (.slice xa gn xc) := keepC (alloc_cell2 w7 #[.slice xa gn xc] 25 0 (.cells #[.slice za zn zc] 25) rfl) hb
              have NX : Hid (∀ b, X b → b < w7.heap.size + 1) := fun b hx => Nat.lt_succ_of_lt (K7.out.kb.xlt b hx)
              clear hb K8 DU gcell7 hgb7
              rcases hor with ⟨rfl, rfl, hsl2, hgc, h16, hpt⟩ | ⟨hE, hbad⟩
              · have HP2 : Hid (PtsSt X W va2 _) := hpt
                have HS2 : Hid (SlA va2 2 vc2) := hsl2
                have H16 : Hid ((C 0).length ≠ 16) := h16
                have HGC0 : Hid (gcheckE G = 0) := hgc
                have a0 : W.cell? ⟨b8, 1, none⟩ = some (.slice p1 (sent 1).length k1) := (two_cells K9.out.kb.s8).2.1
                clear hpt hsl2 h16 hgc K7
                go_wp2_with fail
                refine wp_region_noPanic ?_
                refine wp_region_X (S := fun w'' => w''.cell? ⟨b8, 1, none⟩ = some (.slice p1 (sent 1).length k1) ∧ w''.cell? ⟨w7.heap.size + 1, 0, none⟩ = some (.slice xa gn xc)) 8 (by kernel_rfl) (by (try dsimp only); go_keep) (fun hHeld => ?_)
                refine wpAnyX_take (i := 0) (v := ?_) rfl (by kernel_rfl) (by kernel_rfl) (by kernel_rfl) (by kernel_rfl) (fun _ _ _ h => h) (Or.inl ⟨by rfl, ?_⟩) (by assumption) ?_
                rotate_left
                · intro w hSw; (try dsimp only at hSw); first | (go_simp; done) | (go_simp; with_reducible rfl)
                simp [Act.put]
                refine wpAnyX_take (i := 1) (v := ?_) rfl (by kernel_rfl) (by kernel_rfl) (by kernel_rfl) (by kernel_rfl) (fun _ _ _ h => h) (Or.inl ⟨by rfl, ?_⟩) (by assumption) ?_
                rotate_left
                · intro w hSw; (try dsimp only at hSw); first | (go_simp; done) | (go_simp; with_reducible rfl)
                simp [Act.put]
                refine wpAnyX_take (i := 2) (v := ?_) rfl (by kernel_rfl) (by kernel_rfl) (by kernel_rfl) (by kernel_rfl) (fun _ _ _ h => h) (Or.inl ⟨by rfl, ?_⟩) (by assumption) ?_
                rotate_left
                · intro w hSw; (try dsimp only at hSw); first | (go_simp; done) | (go_simp; with_reducible rfl)
                simp [Act.put]
                refine wpAnyX_take (i := 3) (v := ?_) rfl (by kernel_rfl) (by kernel_rfl) (by kernel_rfl) (by kernel_rfl) (fun _ _ _ h => h) (Or.inl ⟨by rfl, ?_⟩) (by assumption) ?_
                rotate_left
                · intro w hSw; (try dsimp only at hSw); first | (go_simp; done) | (go_simp; with_reducible rfl)
                simp [Act.put]
                refine wpAnyX_take (i := 4) (v := ?_) rfl (by kernel_rfl) (by kernel_rfl) (by kernel_rfl) (by kernel_rfl) (fun _ _ _ h => h) (Or.inl ⟨by rfl, ?_⟩) (by assumption) ?_
                rotate_left
                · intro w hSw; (try dsimp only at hSw); first | (go_simp; done) | (go_simp; with_reducible rfl)
                simp [Act.put]
                refine wpAnyX_one (i := 5) (by kernel_rfl) rfl (fun K hK => ?_)
                go_simp
                refine hK.out _ _ ?_ (fun hHeld => ?_)
                · (try dsimp only)
                  exact ⟨keepC a0 ((Below.refl W.heap.size W).drew.alloc (Nat.le_refl _) (.cells #[.slice xa gn xc] 25)), keepC xc0 ((Below.refl W.heap.size W).drew.alloc (Nat.le_refl _) (.cells #[.slice xa gn xc] 25))⟩
                clear hK K
                try simp [Act.put]
                have KU : Hid (KI w b8 (W.drew.alloc (.cells #[.slice xa gn xc] 25)) X va vc o C sent got (.slice p0 (sent 0).length k0) (.slice p1 (sent 1).length k1) (.slice q0 (got 0).length l0) (.slice q1 (got 1).length l1) i) := K9.out.up ((Below.refl W.heap.size W).drew.alloc (Nat.le_refl _) (.cells #[.slice xa gn xc] 25))
                obtain ⟨J, hJ⟩ := KU.out.kb.r1
                have HJ : Hid _ := hJ
                have hlt9 : ∀ b, ((.slice p1 (sent 1).length k1) : Value).ownBlock = some b → b8 + 3 ≤ b ∧ X b := fun b hb => ⟨(hJ.row.lt b hb).1, KU.out.kb.own (.slice p1 (sent 1).length k1) (by simp) b hb⟩
                have HLT9 : Hid _ := hlt9
                clear hJ hlt9
                refine wpAnyX_one (i := 6) (by kernel_rfl) rfl (fun K hK => ?_)
                refine step_append_at rfl (.tmp 118) (.tmp 120) 41 rfl (b8 + 3) 25 i0 (.agg #[.slice none 0 0]) 1 24 Try.underlying41 hi0 hz0 hz1 hz2 rfl (by decide) (.slice p1 (sent 1).length k1) _ _ rfl HJ.out.row ⟨W.heap.size, 0, none⟩ 1 1 [.slice xa gn xc] rfl rfl (news1 (alloc_cell W.drew #[.slice xa gn xc] 25 0 rfl)) (by intro u hu; simp at hu; subst hu; rfl) (by unfold maxLen; omega) (by omega) KU.out.kb.sz ?_
                intro v9 w9 own9 grow9 hat9
                have cu0 : (W.drew.alloc (.cells #[.slice xa gn xc] 25)).cell? ⟨b8, 1, none⟩ = some (.slice p1 (sent 1).length k1) := keepC a0 ((Below.refl W.heap.size W).drew.alloc (Nat.le_refl _) (.cells #[.slice xa gn xc] 25))
                have cu1 : (W.drew.alloc (.cells #[.slice xa gn xc] 25)).cell? ⟨w7.heap.size + 1, 0, none⟩ = some (.slice xa gn xc) := keepC xc0 ((Below.refl W.heap.size W).drew.alloc (Nat.le_refl _) (.cells #[.slice xa gn xc] 25))
                have ne0 : some b8 ≠ ((.slice p1 (sent 1).length k1) : Value).ownBlock := fun e => by have := (HLT9.out _ e.symm).1; omega
                have ne1 : some (w7.heap.size + 1) ≠ ((.slice p1 (sent 1).length k1) : Value).ownBlock := fun e => by have := NX.out _ (HLT9.out _ e.symm).2; omega
                have t3 : w9.cell? ⟨b8, 1, none⟩ = some (.slice p1 (sent 1).length k1) := grow9.cell cu0 ne0
                have t4 : w9.cell? ⟨w7.heap.size + 1, 0, none⟩ = some (.slice xa gn xc) := grow9.cell cu1 ne1
                have f9 : w9.frozen? ⟨b8, 1, none⟩ = false := (World.frozen?_of_block (grow9.block _ (World.block_lt_of_cell? _ _ cu0) ne0)).trans ((two_cells KU.out.kb.s8).2.2.2)
                have FIN : Hid _ := KU.out.put_v1 HJ.out (G := G) (by rw [HGNN.out]; exact own9) grow9 hat9 HGC.out HGC0.out H16.out HS2.out (HP2.out.off (OffX.of_below ((Below.refl W.heap.size W).drew.alloc (Nat.le_refl _) (.cells #[.slice xa gn xc] 25))))
                have HO9 : Hid _ := own9
                refine hK.out _ _ ?_ (fun hHeld => ?_)
                · exact ⟨t3, t4⟩
                obtain ⟨va9, vc9, hv9⟩ : ∃ a c, v9 = .slice a ((sent 1).length + 1) c := by
                  rcases HO9.out.2 with ⟨e, e0⟩ | ⟨g5, cap5, cur5, e, _⟩
                  · exact ⟨none, 0, by rw [e, e0]⟩
                  · exact ⟨_, cap5, e⟩
                subst hv9
                clear hK K own9 grow9 hat9 cu0 cu1 ne0 ne1 HO9 HJ HLT9 KU a0 xc0
                try simp [Act.put]
                refine wpAnyX_take (i := 7) (v := ?_) rfl (by kernel_rfl) (by kernel_rfl) (by kernel_rfl) (by kernel_rfl) (fun _ _ _ h => h) (Or.inl ⟨by rfl, ?_⟩) (by assumption) ?_
                rotate_left
                · intro w hSw; (try dsimp only at hSw); first | (go_simp; done) | (go_simp; with_reducible rfl)
                simp [Act.put]
                refine wpAnyX_last (by kernel_rfl) rfl (fun K hK => ?_)
                go_simp
                refine hK.out _ _ ?_
                clear hK K
                try simp [Act.put]
                refine wpAnyX_done (by kernel_rfl) ?_ _
                refine NoPanic.normal ?_
                clear t3 t4 f9
                clear K9 HP2 HS2 H16 HGC0 NX HGC HGNN
                go_wp2_with fail
                refine Calls.mono (kCheck HC.out _ _ _ _ _ _ FIN.out.keep.ok FIN.out.sl FIN.out.pts) ?_
                rintro e wz ⟨rfl, hb⟩
                have KZ : Hid _ := FIN.out.up hb
                clear hb FIN
                go_wp2_with fail
                go_roundg (len - (i + 1))
                case measure => omega
                case rel => exact ⟨i + 1, _, _, _, o, _, _, _, _, _, _, _, by omega, by omega, by go_num, rfl, KZ⟩
              · have hEa : decide (E = 0) = false := decide_eq_false hE
                have hEb : (E == 0) = false := by simp [hE]
                have DK : Hid (∀ W, ClsAt W xa G → _) := fun W hW => gcheck_any xa xc G W HGN.out HGG.out hW
                rw [HGNN.out] at DK
                obtain ⟨pb, po, ep, pc⟩ := K9.out.pts.at 0 (by rw [two_len]; decide)
                subst ep
                obtain ⟨_, _, _, ca, cc, pc3, _, _⟩ := pc
                have pc4 : W.cell? ⟨pb, po + 0 * 5 + 3, none⟩ = some (.slice ca (C 0).length cc) := pc3
                clear pc3 K7
                by_cases hg0 : gcheckE G = 0
                · have h16 : (C 0).length = 16 := hbad hg0
                  rw [hg0] at DK
                  rw [h16] at pc4
                  clear h16 hg0 hbad
                  go_wp2_with fail
                  refine Calls.mono (DK.out _ (HGC.out.below K9.out.below)) ?_
                  rintro e wy ⟨rfl, hb⟩
                  have KY : Hid _ := (K9.out.up hb).next
                  have pc5 := keepC pc4 hb
                  clear hb K9 pc4 xc0
                  go_wp2_with fail
                  refine Calls.mono (kCheck HC.out _ _ _ _ _ _ KY.out.keep.ok KY.out.sl KY.out.pts) ?_
                  rintro e wz ⟨rfl, hb⟩
                  have KZ : Hid _ := KY.out.up hb
                  clear hb KY
                  go_wp2_with fail
                  go_roundg (len - (i + 1))
                  case measure => omega
                  case rel => exact ⟨i + 1, _, _, X, o, C, sent, got, _, _, _, _, by omega, by omega, by go_num, rfl, KZ⟩
                · have hga : decide (gcheckE G = 0) = false := decide_eq_false hg0
                  have hgb : (gcheckE G == 0) = false := by simp [hg0]
                  clear hg0 hbad
                  generalize gcheckE G = GE at *
                  go_wp2_with fail
                  refine Calls.mono (DK.out _ (HGC.out.below K9.out.below)) ?_
                  rintro e wy ⟨rfl, hb⟩
                  have KY : Hid _ := (K9.out.up hb).next
                  clear hb K9 pc4 xc0
                  go_wp2_with fail
                  refine Calls.mono (kCheck HC.out _ _ _ _ _ _ KY.out.keep.ok KY.out.sl KY.out.pts) ?_
                  rintro e wz ⟨rfl, hb⟩
                  have KZ : Hid _ := KY.out.up hb
                  clear hb KY
                  go_wp2_with fail
                  go_roundg (len - (i + 1))
                  case measure => omega
                  case rel => exact ⟨i + 1, _, _, X, o, C, sent, got, _, _, _, _, by omega, by omega, by go_num, rfl, KZ⟩
        · as_aux_lemma =>
            by_cases hgl0 : gl = 0
            · subst hgl0
              go_wp2_with fail
              go_roundg (len - (i + 1))
              case measure => omega
              case rel => exact ⟨i + 1, _, _, X, o, C, sent, got, _, _, _, _, by omega, by omega, by go_num, rfl, (K7.out.up (one_belowS _ _)).next⟩
            · obtain ⟨j, hj2⟩ : ∃ j : Nat, i % gl = j := ⟨_, rfl⟩
              have hjl : j < gl := by rw [← hj2]; exact Nat.mod_lt _ (by omega)
              have hj1 : (i : Int) % (gl : Int) = (j : Int) := by rw [← hj2]; simp
              have hjl2 : (j : Int) < (gl : Int) := by omega
              have y1 : decide ((gl : Int) = 0) = false := decide_eq_false (by omega)
              have y2 : ((gl : Int) == 0) = false := by simp; omega
              have y3 : decide (gl = 0) = false := decide_eq_false hgl0
              obtain ⟨gb, gof, xa, xc, eg, gcell, gcl⟩ := HG.out j (by rw [HGL.out]; exact hjl)
              obtain ⟨hGn, hGb⟩ := HGB.out j (by rw [HGL.out]; exact hjl)
              subst eg
              generalize gr GS j = G at *
              have HGN : Hid (G.length ≤ 9223372036854775807) := hGn
              have HGG : Hid (BigC G) := hGb
              have HGC : Hid (ClsAt w xa G) := gcl
              have gcell7 := keepC gcell K7.out.below
              have hgb7 : gb < w7.heap.size := World.block_lt_of_cell? _ _ gcell7
              clear gcl hGb hGn gcell
              obtain ⟨gn, hgn⟩ : ∃ z, G.length = z := ⟨_, rfl⟩
              have HGNN : Hid (G.length = gn) := hgn
              rw [hgn] at gcell7
              have DU : Hid (∀ W, KI w b8 W X va vc o C sent got (.slice p0 (sent 0).length k0) (.slice p1 (sent 1).length k1) (.slice q0 (got 0).length l0) (.slice q1 (got 1).length l1) i → _) := fun W hW => kPush HU.out X va vc o C 1 xa xc G W hW.keep.ok (by decide) hW.sl hW.pts hW.kb.xlt HGN.out HGG.out (HGC.out.below hW.below)
              rw [hgn] at DU
              clear hgn
              go_wp2_with fail
              have K8 : Hid (KI w b8 _ X va vc o C sent got (.slice p0 (sent 0).length k0) (.slice p1 (sent 1).length k1) (.slice q0 (got 0).length l0) (.slice q1 (got 1).length l1) i) := K7.out.up (two_belowS w7 (.cells #[.slice za zn zc] 25) (.cells #[.slice xa gn xc] 25))
              refine Calls.mono (DU.out _ K8.out) ?_
              rintro e W ⟨va2, vc2, n2, E, rfl, hb, hor⟩
              have K9 : Hid (KI w b8 W X va vc o C sent got (.slice p0 (sent 0).length k0) (.slice p1 (sent 1).length k1) (.slice q0 (got 0).length l0) (.slice q1 (got 1).length l1) i) := K8.out.up hb
              have xc0 : W.cell? ⟨w7.heap.size + 1, 0, none⟩ = some (.slice xa gn xc) := keepC (alloc_cell2 w7 #[.slice xa gn xc] 25 0 (.cells #[.slice za zn zc] 25) rfl) hb
              have NX : Hid (∀ b, X b → b < w7.heap.size + 1) := fun b hx => Nat.lt_succ_of_lt (K7.out.kb.xlt b hx)
              clear hb K8 DU gcell7 hgb7
              rcases hor with ⟨rfl, rfl, hsl2, hgc, h16, hpt⟩ | ⟨hE, hbad⟩
              · have HP2 : Hid (PtsSt X W va2 _) := hpt
                have HS2 : Hid (SlA va2 2 vc2) := hsl2
                have H16 : Hid ((C 0).length ≠ 16) := h16
                have HGC0 : Hid (gcheckE G = 0) := hgc
                have a0 : W.cell? ⟨b8, 1, none⟩ = some (.slice p1 (sent 1).length k1) := (two_cells K9.out.kb.s8).2.1
                clear hpt hsl2 h16 hgc K7
                go_wp2_with fail
                refine wp_region_noPanic ?_
                refine wp_region_X (S := fun w'' => w''.cell? ⟨b8, 1, none⟩ = some (.slice p1 (sent 1).length k1) ∧ w''.cell? ⟨w7.heap.size + 1, 0, none⟩ = some (.slice xa gn xc)) 8 (by kernel_rfl) (by (try dsimp only); go_keep) (fun hHeld => ?_)
                refine wpAnyX_take (i := 0) (v := ?_) rfl (by kernel_rfl) (by kernel_rfl) (by kernel_rfl) (by kernel_rfl) (fun _ _ _ h => h) (Or.inl ⟨by rfl, ?_⟩) (by assumption) ?_
                rotate_left
                · intro w hSw; (try dsimp only at hSw); first | (go_simp; done) | (go_simp; with_reducible rfl)
                simp [Act.put]
                refine wpAnyX_take (i := 1) (v := ?_) rfl (by kernel_rfl) (by kernel_rfl) (by kernel_rfl) (by kernel_rfl) (fun _ _ _ h => h) (Or.inl ⟨by rfl, ?_⟩) (by assumption) ?_
                rotate_left
                · intro w hSw; (try dsimp only at hSw); first | (go_simp; done) | (go_simp; with_reducible rfl)
                simp [Act.put]
                refine wpAnyX_take (i := 2) (v := ?_) rfl (by kernel_rfl) (by kernel_rfl) (by kernel_rfl) (by kernel_rfl) (fun _ _ _ h => h) (Or.inl ⟨by rfl, ?_⟩) (by assumption) ?_
                rotate_left
                · intro w hSw; (try dsimp only at hSw); first | (go_simp; done) | (go_simp; with_reducible rfl)
                simp [Act.put]
                refine wpAnyX_take (i := 3) (v := ?_) rfl (by kernel_rfl) (by kernel_rfl) (by kernel_rfl) (by kernel_rfl) (fun _ _ _ h => h) (Or.inl ⟨by rfl, ?_⟩) (by assumption) ?_
                rotate_left
                · intro w hSw; (try dsimp only at hSw); first | (go_simp; done) | (go_simp; with_reducible rfl)
                simp [Act.put]
                refine wpAnyX_take (i := 4) (v := ?_) rfl (by kernel_rfl) (by kernel_rfl) (by kernel_rfl) (by kernel_rfl) (fun _ _ _ h => h) (Or.inl ⟨by rfl, ?_⟩) (by assumption) ?_
                rotate_left
                · intro w hSw; (try dsimp only at hSw); first | (go_simp; done) | (go_simp; with_reducible rfl)
                simp [Act.put]
                refine wpAnyX_one (i := 5) (by kernel_rfl) rfl (fun K hK => ?_)
                go_simp
                refine hK.out _ _ ?_ (fun hHeld => ?_)
                · (try dsimp only)
                  exact ⟨keepC a0 ((Below.refl W.heap.size W).drew.alloc (Nat.le_refl _) (.cells #[.slice xa gn xc] 25)), keepC xc0 ((Below.refl W.heap.size W).drew.alloc (Nat.le_refl _) (.cells #[.slice xa gn xc] 25))⟩
                clear hK K
                try simp [Act.put]
                have KU : Hid (KI w b8 (W.drew.alloc (.cells #[.slice xa gn xc] 25)) X va vc o C sent got (.slice p0 (sent 0).length k0) (.slice p1 (sent 1).length k1) (.slice q0 (got 0).length l0) (.slice q1 (got 1).length l1) i) := K9.out.up ((Below.refl W.heap.size W).drew.alloc (Nat.le_refl _) (.cells #[.slice xa gn xc] 25))
                obtain ⟨J, hJ⟩ := KU.out.kb.r1
                have HJ : Hid _ := hJ
                have hlt9 : ∀ b, ((.slice p1 (sent 1).length k1) : Value).ownBlock = some b → b8 + 3 ≤ b ∧ X b := fun b hb => ⟨(hJ.row.lt b hb).1, KU.out.kb.own (.slice p1 (sent 1).length k1) (by simp) b hb⟩
                have HLT9 : Hid _ := hlt9
                clear hJ hlt9
                refine wpAnyX_one (i := 6) (by kernel_rfl) rfl (fun K hK => ?_)
                refine step_append_at rfl (.tmp 118) (.tmp 120) 41 rfl (b8 + 3) 25 i0 (.agg #[.slice none 0 0]) 1 24 Try.underlying41 hi0 hz0 hz1 hz2 rfl (by decide) (.slice p1 (sent 1).length k1) _ _ rfl HJ.out.row ⟨W.heap.size, 0, none⟩ 1 1 [.slice xa gn xc] rfl rfl (news1 (alloc_cell W.drew #[.slice xa gn xc] 25 0 rfl)) (by intro u hu; simp at hu; subst hu; rfl) (by unfold maxLen; omega) (by omega) KU.out.kb.sz ?_
                intro v9 w9 own9 grow9 hat9
                have cu0 : (W.drew.alloc (.cells #[.slice xa gn xc] 25)).cell? ⟨b8, 1, none⟩ = some (.slice p1 (sent 1).length k1) := keepC a0 ((Below.refl W.heap.size W).drew.alloc (Nat.le_refl _) (.cells #[.slice xa gn xc] 25))
                have cu1 : (W.drew.alloc (.cells #[.slice xa gn xc] 25)).cell? ⟨w7.heap.size + 1, 0, none⟩ = some (.slice xa gn xc) := keepC xc0 ((Below.refl W.heap.size W).drew.alloc (Nat.le_refl _) (.cells #[.slice xa gn xc] 25))
                have ne0 : some b8 ≠ ((.slice p1 (sent 1).length k1) : Value).ownBlock := fun e => by have := (HLT9.out _ e.symm).1; omega
                have ne1 : some (w7.heap.size + 1) ≠ ((.slice p1 (sent 1).length k1) : Value).ownBlock := fun e => by have := NX.out _ (HLT9.out _ e.symm).2; omega
                have t3 : w9.cell? ⟨b8, 1, none⟩ = some (.slice p1 (sent 1).length k1) := grow9.cell cu0 ne0
                have t4 : w9.cell? ⟨w7.heap.size + 1, 0, none⟩ = some (.slice xa gn xc) := grow9.cell cu1 ne1
                have f9 : w9.frozen? ⟨b8, 1, none⟩ = false := (World.frozen?_of_block (grow9.block _ (World.block_lt_of_cell? _ _ cu0) ne0)).trans ((two_cells KU.out.kb.s8).2.2.2)
                have FIN : Hid _ := KU.out.put_v1 HJ.out (G := G) (by rw [HGNN.out]; exact own9) grow9 hat9 HGC.out HGC0.out H16.out HS2.out (HP2.out.off (OffX.of_below ((Below.refl W.heap.size W).drew.alloc (Nat.le_refl _) (.cells #[.slice xa gn xc] 25))))
                have HO9 : Hid _ := own9
                refine hK.out _ _ ?_ (fun hHeld => ?_)
                · exact ⟨t3, t4⟩
                obtain ⟨va9, vc9, hv9⟩ : ∃ a c, v9 = .slice a ((sent 1).length + 1) c := by
                  rcases HO9.out.2 with ⟨e, e0⟩ | ⟨g5, cap5, cur5, e, _⟩
                  · exact ⟨none, 0, by rw [e, e0]⟩
                  · exact ⟨_, cap5, e⟩
                subst hv9
                clear hK K own9 grow9 hat9 cu0 cu1 ne0 ne1 HO9 HJ HLT9 KU a0 xc0
                try simp [Act.put]
                refine wpAnyX_take (i := 7) (v := ?_) rfl (by kernel_rfl) (by kernel_rfl) (by kernel_rfl) (by kernel_rfl) (fun _ _ _ h => h) (Or.inl ⟨by rfl, ?_⟩) (by assumption) ?_
                rotate_left
                · intro w hSw; (try dsimp only at hSw); first | (go_simp; done) | (go_simp; with_reducible rfl)
                simp [Act.put]
                refine wpAnyX_last (by kernel_rfl) rfl (fun K hK => ?_)
                go_simp
                refine hK.out _ _ ?_
                clear hK K
                try simp [Act.put]
                refine wpAnyX_done (by kernel_rfl) ?_ _
                refine NoPanic.normal ?_
                clear t3 t4 f9
                clear K9 HP2 HS2 H16 HGC0 NX HGC HGNN
                go_wp2_with fail
                refine Calls.mono (kCheck HC.out _ _ _ _ _ _ FIN.out.keep.ok FIN.out.sl FIN.out.pts) ?_
                rintro e wz ⟨rfl, hb⟩
                have KZ : Hid _ := FIN.out.up hb
                clear hb FIN
                go_wp2_with fail
                go_roundg (len - (i + 1))
                case measure => omega
                case rel => exact ⟨i + 1, _, _, _, o, _, _, _, _, _, _, _, by omega, by omega, by go_num, rfl, KZ⟩
              · have hEa : decide (E = 0) = false := decide_eq_false hE
                have hEb : (E == 0) = false := by simp [hE]
                have DK : Hid (∀ W, ClsAt W xa G → _) := fun W hW => gcheck_any xa xc G W HGN.out HGG.out hW
                rw [HGNN.out] at DK
                obtain ⟨pb, po, ep, pc⟩ := K9.out.pts.at 0 (by rw [two_len]; decide)
                subst ep
                obtain ⟨_, _, _, ca, cc, pc3, _, _⟩ := pc
                have pc4 : W.cell? ⟨pb, po + 0 * 5 + 3, none⟩ = some (.slice ca (C 0).length cc) := pc3
                clear pc3 K7
                by_cases hg0 : gcheckE G = 0
                · have h16 : (C 0).length = 16 := hbad hg0
                  rw [hg0] at DK
                  rw [h16] at pc4
                  clear h16 hg0 hbad
                  go_wp2_with fail
                  refine Calls.mono (DK.out _ (HGC.out.below K9.out.below)) ?_
                  rintro e wy ⟨rfl, hb⟩
                  have KY : Hid _ := (K9.out.up hb).next
                  have pc5 := keepC pc4 hb
                  clear hb K9 pc4 xc0
                  go_wp2_with fail
                  refine Calls.mono (kCheck HC.out _ _ _ _ _ _ KY.out.keep.ok KY.out.sl KY.out.pts) ?_
                  rintro e wz ⟨rfl, hb⟩
                  have KZ : Hid _ := KY.out.up hb
                  clear hb KY
                  go_wp2_with fail
                  go_roundg (len - (i + 1))
                  case measure => omega
                  case rel => exact ⟨i + 1, _, _, X, o, C, sent, got, _, _, _, _, by omega, by omega, by go_num, rfl, KZ⟩
                · have hga : decide (gcheckE G = 0) = false := decide_eq_false hg0
                  have hgb : (gcheckE G == 0) = false := by simp [hg0]
                  clear hg0 hbad
                  generalize gcheckE G = GE at *
                  go_wp2_with fail
                  refine Calls.mono (DK.out _ (HGC.out.below K9.out.below)) ?_
                  rintro e wy ⟨rfl, hb⟩
                  have KY : Hid _ := (K9.out.up hb).next
                  clear hb K9 pc4 xc0
                  go_wp2_with fail
                  refine Calls.mono (kCheck HC.out _ _ _ _ _ _ KY.out.keep.ok KY.out.sl KY.out.pts) ?_
                  rintro e wz ⟨rfl, hb⟩
                  have KZ : Hid _ := KY.out.up hb
                  clear hb KY
                  go_wp2_with fail
                  go_roundg (len - (i + 1))
                  case measure => omega
                  case rel => exact ⟨i + 1, _, _, X, o, C, sent, got, _, _, _, _, by omega, by omega, by go_num, rfl, KZ⟩
        · as_aux_lemma =>
            have DL : Hid (∀ W, KI w b8 W X va vc o C sent got (.slice p0 (sent 0).length k0) (.slice p1 (sent 1).length k1) (.slice q0 (got 0).length l0) (.slice q1 (got 1).length l1) i → _) := fun W hW => kPull HPl.out X va vc o C 1 W hW.keep.ok (by decide) hW.sl hW.pts hW.kb.xlt
            go_wp2_with fail
            have K8 : Hid (KI w b8 _ X va vc o C sent got (.slice p0 (sent 0).length k0) (.slice p1 (sent 1).length k1) (.slice q0 (got 0).length l0) (.slice q1 (got 1).length l1) i) := K7.out.up (one_belowS w7 (.cells #[.slice za zn zc] 25))
            refine Calls.mono (DL.out _ K8.out) ?_
            rintro e w9 ⟨va2, vc2, n2, xa, xc, gn, E, rfl, hb, hor⟩
            have K9 : Hid (KI w b8 w9 X va vc o C sent got (.slice p0 (sent 0).length k0) (.slice p1 (sent 1).length k1) (.slice q0 (got 0).length l0) (.slice q1 (got 1).length l1) i) := K8.out.up hb
            have NX : Hid (∀ b, X b → b < w9.heap.size) := fun b hx => K9.out.kb.xlt b hx
            have KV : Hid (KI w b8 (w9.alloc (.cells #[.slice xa gn xc] 25)) X va vc o C sent got (.slice p0 (sent 0).length k0) (.slice p1 (sent 1).length k1) (.slice q0 (got 0).length l0) (.slice q1 (got 1).length l1) i) := K9.out.up (one_belowS _ _)
            have xc1 : (w9.alloc (.cells #[.slice xa gn xc] 25)).cell? ⟨w9.heap.size, 0, none⟩ = some (.slice xa gn xc) := alloc_cell w9 _ _ 0 rfl
            have a9 : (w9.alloc (.cells #[.slice xa gn xc] 25)).cell? ⟨b8 + 1, 1, none⟩ = some (.slice q1 (got 1).length l1) := (two_cells KV.out.kb.s9).2.1
            have a8 : (w9.alloc (.cells #[.slice xa gn xc] 25)).cell? ⟨b8, 0, none⟩ = some (.slice p0 (sent 0).length k0) := (two_cells KV.out.kb.s8).1
            have cnt : (sent 0).length = (got 1).length + (C 1).length := K9.out.keep.count (s := 1) (by decide)
            clear hb K8 DL K7
            rcases hor with ⟨rfl, rfl, hsl2, h0, hgn, hpt, hcl⟩ | ⟨rfl, h0⟩
            · have hlt9 : ((got 1).length : Int) < ((sent 0).length : Int) := by omega
              have HP2 : Hid (PtsSt X w9 va2 _) := hpt
              have HS2 : Hid (SlA va2 2 vc2) := hsl2
              have H0 : Hid ((C 1).length ≠ 0) := h0
              have HGNN : Hid (gn = (gr (C 1) 0).length) := hgn
              have HCL : Hid (ClsSt X w9 xa _) := hcl
              clear hpt hsl2 h0 hgn hcl cnt
              go_wp2_with fail
              obtain ⟨V, hV⟩ : ∃ V, (w9.alloc (.cells #[.slice xa gn xc] 25)) = V := ⟨_, rfl⟩
              have OV : Hid (Below w9.heap.size w9 V) := by rw [← hV]; exact one_belowS _ _
              rw [hV] at KV xc1 a9 a8 ⊢
              clear hV
              go_big_quiet (fail)
              go_wp2_with fail
              have KW : Hid (KI w b8 (V.drewN nq) X va vc o C sent got (.slice p0 (sent 0).length k0) (.slice p1 (sent 1).length k1) (.slice q0 (got 0).length l0) (.slice q1 (got 1).length l1) i) := KV.out.drewN nq
              have OVW : Hid (Below w9.heap.size w9 (V.drewN nq)) := ⟨OV.out.os, OV.out.tape, OV.out.output, OV.out.size, OV.out.block⟩
              have xc0 : (V.drewN nq).cell? ⟨w9.heap.size, 0, none⟩ = some (.slice xa gn xc) := xc1
              have a0 : (V.drewN nq).cell? ⟨b8 + 1, 1, none⟩ = some (.slice q1 (got 1).length l1) := a9
              obtain ⟨W, hW⟩ : ∃ W, V.drewN nq = W := ⟨_, rfl⟩
              rw [hW] at KW OVW xc0 a0 ⊢
              clear hW KV OV xc1 a9 a8 K9
              refine wp_region_noPanic ?_
              refine wp_region_X (S := fun w'' => w''.cell? ⟨(b8 + 1), 1, none⟩ = some (.slice q1 (got 1).length l1) ∧ w''.cell? ⟨w9.heap.size, 0, none⟩ = some (.slice xa gn xc)) 8 (by kernel_rfl) (by (try dsimp only); go_keep) (fun hHeld => ?_)
              refine wpAnyX_take (i := 0) (v := ?_) rfl (by kernel_rfl) (by kernel_rfl) (by kernel_rfl) (by kernel_rfl) (fun _ _ _ h => h) (Or.inl ⟨by rfl, ?_⟩) (by assumption) ?_
              rotate_left
              · intro w hSw; (try dsimp only at hSw); first | (go_simp; done) | (go_simp; with_reducible rfl)
              simp [Act.put]
              refine wpAnyX_take (i := 1) (v := ?_) rfl (by kernel_rfl) (by kernel_rfl) (by kernel_rfl) (by kernel_rfl) (fun _ _ _ h => h) (Or.inl ⟨by rfl, ?_⟩) (by assumption) ?_
              rotate_left
              · intro w hSw; (try dsimp only at hSw); first | (go_simp; done) | (go_simp; with_reducible rfl)
              simp [Act.put]
              refine wpAnyX_take (i := 2) (v := ?_) rfl (by kernel_rfl) (by kernel_rfl) (by kernel_rfl) (by kernel_rfl) (fun _ _ _ h => h) (Or.inl ⟨by rfl, ?_⟩) (by assumption) ?_
              rotate_left
              · intro w hSw; (try dsimp only at hSw); first | (go_simp; done) | (go_simp; with_reducible rfl)
              simp [Act.put]
              refine wpAnyX_take (i := 3) (v := ?_) rfl (by kernel_rfl) (by kernel_rfl) (by kernel_rfl) (by kernel_rfl) (fun _ _ _ h => h) (Or.inl ⟨by rfl, ?_⟩) (by assumption) ?_
              rotate_left
              · intro w hSw; (try dsimp only at hSw); first | (go_simp; done) | (go_simp; with_reducible rfl)
              simp [Act.put]
              refine wpAnyX_take (i := 4) (v := ?_) rfl (by kernel_rfl) (by kernel_rfl) (by kernel_rfl) (by kernel_rfl) (fun _ _ _ h => h) (Or.inl ⟨by rfl, ?_⟩) (by assumption) ?_
              rotate_left
              · intro w hSw; (try dsimp only at hSw); first | (go_simp; done) | (go_simp; with_reducible rfl)
              simp [Act.put]
              refine wpAnyX_one (i := 5) (by kernel_rfl) rfl (fun K hK => ?_)
              go_simp
              refine hK.out _ _ ?_ (fun hHeld => ?_)
              · (try dsimp only)
                exact ⟨keepC a0 ((Below.refl W.heap.size W).drew.alloc (Nat.le_refl _) (.cells #[.slice xa gn xc] 25)), keepC xc0 ((Below.refl W.heap.size W).drew.alloc (Nat.le_refl _) (.cells #[.slice xa gn xc] 25))⟩
              clear hK K
              try simp [Act.put]
              have KU : Hid (KI w b8 (W.drew.alloc (.cells #[.slice xa gn xc] 25)) X va vc o C sent got (.slice p0 (sent 0).length k0) (.slice p1 (sent 1).length k1) (.slice q0 (got 0).length l0) (.slice q1 (got 1).length l1) i) := KW.out.up ((Below.refl W.heap.size W).drew.alloc (Nat.le_refl _) (.cells #[.slice xa gn xc] 25))
              obtain ⟨J, hJ⟩ := KU.out.kb.q1
              have HJ : Hid _ := hJ
              have hlt9 : ∀ b, ((.slice q1 (got 1).length l1) : Value).ownBlock = some b → b8 + 3 ≤ b ∧ X b := fun b hb => ⟨(hJ.row.lt b hb).1, KU.out.kb.own (.slice q1 (got 1).length l1) (by simp) b hb⟩
              have HLT9 : Hid _ := hlt9
              clear hJ hlt9
              refine wpAnyX_one (i := 6) (by kernel_rfl) rfl (fun K hK => ?_)
              refine step_append_at rfl (.tmp 167) (.tmp 169) 41 rfl (b8 + 3) 25 i0 (.agg #[.slice none 0 0]) 1 24 Try.underlying41 hi0 hz0 hz1 hz2 rfl (by decide) (.slice q1 (got 1).length l1) _ _ rfl HJ.out.row ⟨W.heap.size, 0, none⟩ 1 1 [.slice xa gn xc] rfl rfl (news1 (alloc_cell W.drew #[.slice xa gn xc] 25 0 rfl)) (by intro u hu; simp at hu; subst hu; rfl) (by unfold maxLen; omega) (by omega) KU.out.kb.sz ?_
              intro v9 wB own9 grow9 hat9
              have cu0 : (W.drew.alloc (.cells #[.slice xa gn xc] 25)).cell? ⟨(b8 + 1), 1, none⟩ = some (.slice q1 (got 1).length l1) := keepC a0 ((Below.refl W.heap.size W).drew.alloc (Nat.le_refl _) (.cells #[.slice xa gn xc] 25))
              have cu1 : (W.drew.alloc (.cells #[.slice xa gn xc] 25)).cell? ⟨w9.heap.size, 0, none⟩ = some (.slice xa gn xc) := keepC xc0 ((Below.refl W.heap.size W).drew.alloc (Nat.le_refl _) (.cells #[.slice xa gn xc] 25))
              have ne0 : some (b8 + 1) ≠ ((.slice q1 (got 1).length l1) : Value).ownBlock := fun e => by have := (HLT9.out _ e.symm).1; omega
              have ne1 : some (w9.heap.size) ≠ ((.slice q1 (got 1).length l1) : Value).ownBlock := fun e => by have := NX.out _ (HLT9.out _ e.symm).2; omega
              have t3 : wB.cell? ⟨(b8 + 1), 1, none⟩ = some (.slice q1 (got 1).length l1) := grow9.cell cu0 ne0
              have t4 : wB.cell? ⟨w9.heap.size, 0, none⟩ = some (.slice xa gn xc) := grow9.cell cu1 ne1
              have f9 : wB.frozen? ⟨(b8 + 1), 1, none⟩ = false := (World.frozen?_of_block (grow9.block _ (World.block_lt_of_cell? _ _ cu0) ne0)).trans ((two_cells KU.out.kb.s9).2.2.2)
              have FIN : Hid _ := KU.out.put_g1 HJ.out (by rw [← HGNN.out]; exact own9) grow9 hat9 (HCL.out.off (OffX.of_below (OVW.out.trans (((Below.refl W.heap.size W).drew.alloc (Nat.le_refl _) (.cells #[.slice xa gn xc] 25)).mono OVW.out.size)))) H0.out HS2.out (HP2.out.off (OffX.of_below (OVW.out.trans (((Below.refl W.heap.size W).drew.alloc (Nat.le_refl _) (.cells #[.slice xa gn xc] 25)).mono OVW.out.size))))
              have HO9 : Hid _ := own9
              refine hK.out _ _ ?_ (fun hHeld => ?_)
              · exact ⟨t3, t4⟩
              obtain ⟨va9, vc9, hv9⟩ : ∃ a c, v9 = .slice a ((got 1).length + 1) c := by
                rcases HO9.out.2 with ⟨e, e0⟩ | ⟨g5, cap5, cur5, e, _⟩
                · exact ⟨none, 0, by rw [e, e0]⟩
                · exact ⟨_, cap5, e⟩
              subst hv9
              clear hK K own9 grow9 hat9 cu0 cu1 ne0 ne1 HO9 HJ HLT9 KU a0 xc0
              try simp [Act.put]
              refine wpAnyX_take (i := 7) (v := ?_) rfl (by kernel_rfl) (by kernel_rfl) (by kernel_rfl) (by kernel_rfl) (fun _ _ _ h => h) (Or.inl ⟨by rfl, ?_⟩) (by assumption) ?_
              rotate_left
              · intro w hSw; (try dsimp only at hSw); first | (go_simp; done) | (go_simp; with_reducible rfl)
              simp [Act.put]
              refine wpAnyX_last (by kernel_rfl) rfl (fun K hK => ?_)
              go_simp
              refine hK.out _ _ ?_
              clear hK K
              try simp [Act.put]
              refine wpAnyX_done (by kernel_rfl) ?_ _
              refine NoPanic.normal ?_
              clear t3 t4 f9
              clear KW HP2 HS2 H0 HCL NX HGNN OVW
              go_wp2_with fail
              refine Calls.mono (kCheck HC.out _ _ _ _ _ _ FIN.out.keep.ok FIN.out.sl FIN.out.pts) ?_
              rintro e wz ⟨rfl, hb⟩
              have KZ : Hid _ := FIN.out.up hb
              clear hb FIN
              go_wp2_with fail
              go_roundg (len - (i + 1))
              case measure => omega
              case rel => exact ⟨i + 1, _, _, _, o, _, _, _, _, _, _, _, by omega, by omega, by go_num, rfl, KZ⟩
            · have hl : (sent 0).length = (got 1).length := by omega
              rw [hl] at a8
              clear hl cnt h0 K9
              go_wp2_with fail
              obtain ⟨V, hV⟩ : ∃ V, (w9.alloc (.cells #[.slice xa gn xc] 25)) = V := ⟨_, rfl⟩
              rw [hV] at KV xc1 a9 a8 ⊢
              clear hV
              go_big_quiet (fail)
              go_wp2_with fail
              have KD : Hid (KI w b8 (V.drewN nq) X va vc o C sent got (.slice p0 (sent 0).length k0) (.slice p1 (sent 1).length k1) (.slice q0 (got 0).length l0) (.slice q1 (got 1).length l1) (i + 1)) := (KV.out.drewN nq).next
              clear KV xc1 a9 a8
              refine Calls.mono (kCheck HC.out _ _ _ _ _ _ KD.out.keep.ok KD.out.sl KD.out.pts) ?_
              rintro e wz ⟨rfl, hb⟩
              have KZ : Hid _ := KD.out.up hb
              clear hb KD
              go_wp2_with fail
              go_roundg (len - (i + 1))
              case measure => omega
              case rel => exact ⟨i + 1, _, _, X, o, C, sent, got, _, _, _, _, by omega, by omega, by go_num, rfl, KZ⟩
        · as_aux_lemma =>
            have hx : 0 ≤ (o 1 + 2) % 3 ∧ (o 1 + 2) % 3 ≤ 2 := by omega
            have HX : Hid _ := hx
            have DQ : Hid (∀ W, KI w b8 W X va vc o C sent got (.slice p0 (sent 0).length k0) (.slice p1 (sent 1).length k1) (.slice q0 (got 0).length l0) (.slice q1 (got 1).length l1) i → _) := fun W hW => kPass HP.out X va vc o C 1 ((o 1 + 2) % 3) W hW.keep.ok (by decide) HX.out hW.sl hW.pts hW.kb.xlt
            clear hx
            go_wp2_with fail
            have K8 : Hid (KI w b8 _ X va vc o C sent got (.slice p0 (sent 0).length k0) (.slice p1 (sent 1).length k1) (.slice q0 (got 0).length l0) (.slice q1 (got 1).length l1) i) := K7.out.up (one_belowS w7 (.cells #[.slice za zn zc] 25))
            refine Calls.mono (DQ.out _ K8.out) ?_
            rintro e w9 ⟨va2, vc2, rfl, hb, hsl2, hpt⟩
            have K9 : Hid (KI w b8 w9 X va vc o C sent got (.slice p0 (sent 0).length k0) (.slice p1 (sent 1).length k1) (.slice q0 (got 0).length l0) (.slice q1 (got 1).length l1) i) := K8.out.up hb
            have a0 : w9.cell? ⟨b8 + 1 + 1, 1, none⟩ = some (.int .i64 (o 1)) := (two_cells K9.out.kb.s10).2.1
            have f0 : w9.frozen? ⟨b8 + 1 + 1, 1, none⟩ = false := (two_cells K9.out.kb.s10).2.2.2
            have FIN : Hid _ := K9.out.pass1 HX.out hsl2 hpt
            clear hb K7 K8 K9 DQ HX hsl2 hpt
            go_wp2_with fail
            refine Calls.mono (kCheck HC.out _ _ _ _ _ _ FIN.out.keep.ok FIN.out.sl FIN.out.pts) ?_
            rintro e wz ⟨rfl, hb⟩
            have KZ : Hid _ := FIN.out.up hb
            clear hb FIN
            go_wp2_with fail
            go_roundg (len - (i + 1))
            case measure => omega
            case rel => exact ⟨i + 1, _, _, _, _, _, _, _, _, _, _, _, by omega, by omega, by go_num, rfl, KZ⟩
    · obtain ⟨p0, k0, p1, k1, q0, l0, q1, l1, e0, e1, e2, e3⟩ := KR.out.rows
      subst e0 e1 e2 e3
      obtain ⟨hf0, hf1⟩ := KR.out.few
      have hw1 : IntKind.i64.wrap 1 = 1 := by decide
      have hw0 : IntKind.i64.wrap 0 = 0 := by decide
      have hnl : ¬ ((i : Int) < (len : Int)) := by omega
      go_wp2_with fail
      go_loopg [196] 2 (fun g s196 wr2 => ∃ k : Nat, k ≤ 2 ∧ 2 - k ≤ g ∧ s196 = .int .i64 k ∧ Hid (KI w b8 wr2 X va vc o C sent got (.slice p0 (sent 0).length k0) (.slice p1 (sent 1).length k1) (.slice q0 (got 0).length l0) (.slice q1 (got 1).length l1) i))
      case atStart => exact ⟨0, by omega, by omega, rfl, KR⟩
      case round =>
        clear KR
        obtain ⟨k, hk, hgk, rfl, KR2⟩ := hrel
        obtain rfl | rfl | rfl : k = 0 ∨ k = 1 ∨ k = 2 := by omega
        · as_aux_lemma =>
            have a9 : wr.cell? ⟨b8 + 1, 0, none⟩ = some (.slice q0 (got 0).length l0) := (two_cells KR2.out.kb.s9).1
            go_wp2_with fail
            clear a9
            go_loopg [203] (got 0).length (fun g s203 wr => ∃ j : Nat, j ≤ (got 0).length ∧ (got 0).length - j ≤ g ∧ s203 = .int .i64 j ∧ Hid (KI w b8 wr X va vc o C sent got (.slice p0 (sent 0).length k0) (.slice p1 (sent 1).length k1) (.slice q0 (got 0).length l0) (.slice q1 (got 1).length l1) i))
            case atStart => exact ⟨0, by omega, by omega, rfl, KR2⟩
            case round =>
              clear KR2
              obtain ⟨j, hj, hgj, rfl, K3⟩ := hrel
              by_cases hltj : j < (got 0).length
              · have hltj2 : (j : Int) < ((got 0).length : Int) := by omega
                obtain ⟨hjs, R1, R2, hcc⟩ := K3.out.keep.like (s := 0) (by decide) hltj
                have hjs1 : j < (sent 1).length := hjs
                have hjs2 : (j : Int) < ((sent 1).length : Int) := by omega
                have DK : Hid (∀ xa xc ya yc W, ClsAt W xa (gr (got 0) j) → ClsAt W ya (gr (sent 1) j) → _) := fun xa xc ya yc W h1 h2 => kLike _ _ R1 R2 hcc xa xc ya yc W h1 h2
                clear R1 R2 hcc hjs
                obtain ⟨J1, hJ1⟩ := K3.out.kb.q0
                obtain ⟨xb, xo, xa, xc, ex, xcell, xcl⟩ := hJ1.at hltj
                obtain ⟨J2, hJ2⟩ := K3.out.kb.r1
                obtain ⟨yb, yo, ya, yc, ey, ycell, ycl⟩ := hJ2.at hjs1
                clear hJ1 hJ2
                subst ex ey
                have HX : Hid (ClsAt wr xa _) := xcl
                have HY : Hid (ClsAt wr ya _) := ycl
                clear xcl ycl
                obtain ⟨xn, hxn⟩ : ∃ z, (gr (got 0) j).length = z := ⟨_, rfl⟩
                obtain ⟨yn, hyn⟩ : ∃ z, (gr (sent 1) j).length = z := ⟨_, rfl⟩
                rw [hxn] at xcell DK
                rw [hyn] at ycell DK
                clear hxn hyn
                have a8 : wr.cell? ⟨b8, 1, none⟩ = some (.slice (some ⟨yb, yo, none⟩) (sent 1).length k1) := (two_cells K3.out.kb.s8).2.1
                go_wp2_with fail
                have BX : Hid (Below wr.heap.size wr (wr.alloc (.cells #[.slice xa xn xc] 25))) := one_belowS _ _
                have b1 : (wr.alloc (.cells #[.slice xa xn xc] 25)).cell? ⟨wr.heap.size, 0, none⟩ = some (.slice xa xn xc) := alloc_cell wr _ _ 0 rfl
                have b2 := keepC a8 BX.out
                have b3 := keepC ycell BX.out
                obtain ⟨V, hV⟩ : ∃ V, (wr.alloc (.cells #[.slice xa xn xc] 25)) = V := ⟨_, rfl⟩
                rw [hV] at BX b1 b2 b3 ⊢
                clear hV a8 xcell ycell
                go_region_held3 (fun w'' => w''.cell? ⟨wr.heap.size, 0, none⟩ = some (.slice xa xn xc) ∧ w''.cell? ⟨b8, 1, none⟩ = some (.slice (some ⟨yb, yo, none⟩) (sent 1).length k1) ∧ w''.cell? ⟨yb, yo + j, none⟩ = some (.slice ya yn yc)) (go_keep) (first | (go_at_call 23; refine Calls.mono (DK.out xa xc ya yc _ (HX.out.below (BX.out.drew)) (HY.out.below (BX.out.drew))) ?_; rintro e w6 ⟨rfl, hb6⟩; have B6 : Hid (Below V.heap.size V w6) := (Below.refl V.heap.size V).drew.trans hb6; have b1' := keepC b1 B6.out; have b2' := keepC b2 B6.out; have b3' := keepC b3 B6.out; clear hb6))
                have K6 : Hid (KI w b8 w6 X va vc o C sent got (.slice p0 (sent 0).length k0) (.slice (some ⟨yb, yo, none⟩) (sent 1).length k1) (.slice (some ⟨xb, xo, none⟩) (got 0).length l0) (.slice q1 (got 1).length l1) i) := K3.out.up (BX.out.trans (B6.out.mono BX.out.size))
                clear b1 b2 b3 b1' b2' b3'
                go_wp2_with fail
                go_roundg ((got 0).length - (j + 1))
                case measure => omega
                case rel => exact ⟨j + 1, by omega, by omega, by go_num, K6⟩
              · have hje : (got 0).length = j := by omega
                have hje2 : ((got 0).length : Int) = (j : Int) := by omega
                go_wp2_with fail
                go_roundg (2 - (0 + 1))
                case measure => omega
                case rel => exact ⟨0 + 1, by omega, by omega, by go_num, K3⟩
        · as_aux_lemma =>
            have a9 : wr.cell? ⟨b8 + 1, 1, none⟩ = some (.slice q1 (got 1).length l1) := (two_cells KR2.out.kb.s9).2.1
            go_wp2_with fail
            clear a9
            go_loopg [203] (got 1).length (fun g s203 wr => ∃ j : Nat, j ≤ (got 1).length ∧ (got 1).length - j ≤ g ∧ s203 = .int .i64 j ∧ Hid (KI w b8 wr X va vc o C sent got (.slice p0 (sent 0).length k0) (.slice p1 (sent 1).length k1) (.slice q0 (got 0).length l0) (.slice q1 (got 1).length l1) i))
            case atStart => exact ⟨0, by omega, by omega, rfl, KR2⟩
            case round =>
              clear KR2
              obtain ⟨j, hj, hgj, rfl, K3⟩ := hrel
              by_cases hltj : j < (got 1).length
              · have hltj2 : (j : Int) < ((got 1).length : Int) := by omega
                obtain ⟨hjs, R1, R2, hcc⟩ := K3.out.keep.like (s := 1) (by decide) hltj
                have hjs1 : j < (sent 0).length := hjs
                have hjs2 : (j : Int) < ((sent 0).length : Int) := by omega
                have DK : Hid (∀ xa xc ya yc W, ClsAt W xa (gr (got 1) j) → ClsAt W ya (gr (sent 0) j) → _) := fun xa xc ya yc W h1 h2 => kLike _ _ R1 R2 hcc xa xc ya yc W h1 h2
                clear R1 R2 hcc hjs
                obtain ⟨J1, hJ1⟩ := K3.out.kb.q1
                obtain ⟨xb, xo, xa, xc, ex, xcell, xcl⟩ := hJ1.at hltj
                obtain ⟨J2, hJ2⟩ := K3.out.kb.r0
                obtain ⟨yb, yo, ya, yc, ey, ycell, ycl⟩ := hJ2.at hjs1
                clear hJ1 hJ2
                subst ex ey
                have HX : Hid (ClsAt wr xa _) := xcl
                have HY : Hid (ClsAt wr ya _) := ycl
                clear xcl ycl
                obtain ⟨xn, hxn⟩ : ∃ z, (gr (got 1) j).length = z := ⟨_, rfl⟩
                obtain ⟨yn, hyn⟩ : ∃ z, (gr (sent 0) j).length = z := ⟨_, rfl⟩
                rw [hxn] at xcell DK
                rw [hyn] at ycell DK
                clear hxn hyn
                have a8 : wr.cell? ⟨b8, 0, none⟩ = some (.slice (some ⟨yb, yo, none⟩) (sent 0).length k0) := (two_cells K3.out.kb.s8).1
                go_wp2_with fail
                have BX : Hid (Below wr.heap.size wr (wr.alloc (.cells #[.slice xa xn xc] 25))) := one_belowS _ _
                have b1 : (wr.alloc (.cells #[.slice xa xn xc] 25)).cell? ⟨wr.heap.size, 0, none⟩ = some (.slice xa xn xc) := alloc_cell wr _ _ 0 rfl
                have b2 := keepC a8 BX.out
                have b3 := keepC ycell BX.out
                obtain ⟨V, hV⟩ : ∃ V, (wr.alloc (.cells #[.slice xa xn xc] 25)) = V := ⟨_, rfl⟩
                rw [hV] at BX b1 b2 b3 ⊢
                clear hV a8 xcell ycell
                go_region_held3 (fun w'' => w''.cell? ⟨wr.heap.size, 0, none⟩ = some (.slice xa xn xc) ∧ w''.cell? ⟨b8, 0, none⟩ = some (.slice (some ⟨yb, yo, none⟩) (sent 0).length k0) ∧ w''.cell? ⟨yb, yo + j, none⟩ = some (.slice ya yn yc)) (go_keep) (first | (go_at_call 23; refine Calls.mono (DK.out xa xc ya yc _ (HX.out.below (BX.out.drew)) (HY.out.below (BX.out.drew))) ?_; rintro e w6 ⟨rfl, hb6⟩; have B6 : Hid (Below V.heap.size V w6) := (Below.refl V.heap.size V).drew.trans hb6; have b1' := keepC b1 B6.out; have b2' := keepC b2 B6.out; have b3' := keepC b3 B6.out; clear hb6))
                have K6 : Hid (KI w b8 w6 X va vc o C sent got (.slice (some ⟨yb, yo, none⟩) (sent 0).length k0) (.slice p1 (sent 1).length k1) (.slice q0 (got 0).length l0) (.slice (some ⟨xb, xo, none⟩) (got 1).length l1) i) := K3.out.up (BX.out.trans (B6.out.mono BX.out.size))
                clear b1 b2 b3 b1' b2' b3'
                go_wp2_with fail
                go_roundg ((got 1).length - (j + 1))
                case measure => omega
                case rel => exact ⟨j + 1, by omega, by omega, by go_num, K6⟩
              · have hje : (got 1).length = j := by omega
                have hje2 : ((got 1).length : Int) = (j : Int) := by omega
                go_wp2_with fail
                go_roundg (2 - (1 + 1))
                case measure => omega
                case rel => exact ⟨1 + 1, by omega, by omega, by go_num, K3⟩
        · go_wp2_with fail
          go_ret
          exact ⟨rfl, KR2.out.below⟩
end Go.Proofs.Ytgjfmepbphfjoaa
