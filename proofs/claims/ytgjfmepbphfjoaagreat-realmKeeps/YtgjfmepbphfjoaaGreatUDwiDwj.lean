/-
  Deeds: up, insert.
-/
import Derived.Test.YtgjfmepbphfjoaaGreatUDwe
namespace Go.Proofs.YtgjfmepbphfjoaaGreat
open Go.RowKit Go.ChangeShapes Go.WideShapes
set_option linter.unusedVariables false

set_option maxRecDepth 100000 in
set_option maxHeartbeats 4000000 in
theorem up_any (w : World) (R : Rl) (x : Ac) (wf : WF R.s) (hl : R.hs.length = 16) (ha : isH x.a) (hbb : isH x.b) : Deed 69 #[] w R x (aUp R x.b (hd R x.a)) := fun d h g A V I => by
  unfold aUp
  rw [ans_e]
  obtain ⟨a0, a1, a2, a3, c0, c1, c2, c3⟩ := A
  obtain rfl : a0 = some ⟨g, 0, none⟩ := I.a0
  obtain rfl : a1 = some ⟨h, 0, none⟩ := I.a1
  obtain ⟨xk, xa, xb, xc, xn⟩ := x
  obtain ⟨p, hp, hp16⟩ := natH ha
  dsimp only at hp
  subst hp
  obtain ⟨u0, u1⟩ := I.hand (k := p) (by omega)
  obtain ⟨r, hr, hr16⟩ := natH hbb
  dsimp only at hr
  subst hr
  obtain ⟨v0, v1⟩ := I.hand (k := r) (by omega)
  have II : Hid (WI w R d h g _ V) := I
  have D : Hid (∀ W, Below V.heap.size V W → Calls Tryz.prog 10 #[.agg #[.slice (some ⟨g, 0, none⟩) R.s.length c0], .agg #[.int .i64 (hd R (p : Int)).1, .int .i64 (hd R (p : Int)).2]] W fun e w' => ∃ (x : Nd) (ka : Option Addr) (kl kc : Nat), e = .returned (.tuple #[.agg #[.bool x.u, .int .i64 x.n, .int .i64 x.t, .int .i64 x.m, .int .i64 x.p, .slice ka kl kc, .int .i64 x.h, .bool x.c], .int .i64 (findE R.s (hd R (p : Int)).1 (hd R (p : Int)).2)]) ∧ Below W.heap.size W w' ∧ (findE R.s (hd R (p : Int)).1 (hd R (p : Int)).2 = 0 → x = nd R.s (hd R (p : Int)).1.toNat) ∧ (findE R.s (hd R (p : Int)).1 (hd R (p : Int)).2 ≠ 0 → x = zeroNd)) := fun W hW => find_ans R.s _ _ _ c0 W wf (I.nds.below hW)
  obtain ⟨l0, l1, l2, l3, fz, lt⟩ := box4_facts I.box
  dsimp only at l0 l1 l2 l3
  rw [hl] at l1
  have hdv : d < V.heap.size := lt
  have hhv : h < V.heap.size := World.block_lt_of_cell? _ _ u0
  have hp2 : (p : Int) < 16 := by omega
  have hr2 : (r : Int) < 16 := by omega
  show Calls Tryz.prog _ #[.pointer (some ⟨d, 0, none⟩), .agg #[.int .i64 xk, .int .i64 p, .int .i64 r, .int .i64 xc, .int .i64 xn]] V _
  obtain ⟨ns, hns⟩ : ∃ n, R.s.length = n := ⟨_, rfl⟩
  have HNS : Hid (R.s.length = ns) := hns
  have HL : Hid (R.hs.length = 16) := hl
  clear v0 v1 hbb
  clear ha hl
  generalize hd R (p : Int) = hh at *
  obtain ⟨P, U⟩ := hh
  dsimp only at u0 u1 D ⊢
  obtain ⟨E, hE⟩ : ∃ E, findE R.s P U = E := ⟨_, rfl⟩
  have HE : Hid (findE R.s P U = E) := hE
  obtain ⟨M, hM⟩ : ∃ M, upE R.s P U = M := ⟨_, rfl⟩
  have HM : Hid (upE R.s P U = M) := hM
  rw [hE] at D
  rw [hM]
  clear hE hM
  rw [hns] at D l0
  clear hns I
  go_enter Tryz.func69, Tryz.ntmps69
  go_upto_region 1 with fail
  obtain ⟨V1, hV1⟩ : ∃ V1, V.alloc (.cells #[.int .i64 xk, .int .i64 p, .int .i64 r, .int .i64 xc, .int .i64 xn] 41) = V1 := ⟨_, rfl⟩
  have BV : Hid (Below V.heap.size V V1) := by rw [← hV1]; exact one_belowS _ _
  have y0 : V1.cell? ⟨V.heap.size, 0, none⟩ = some (.int .i64 xk) := by rw [← hV1]; exact alloc_cell _ _ _ 0 rfl
  have y1 : V1.cell? ⟨V.heap.size, 1, none⟩ = some (.int .i64 p) := by rw [← hV1]; exact alloc_cell _ _ _ 1 rfl
  have y2 : V1.cell? ⟨V.heap.size, 2, none⟩ = some (.int .i64 r) := by rw [← hV1]; exact alloc_cell _ _ _ 2 rfl
  have y3 : V1.cell? ⟨V.heap.size, 3, none⟩ = some (.int .i64 xc) := by rw [← hV1]; exact alloc_cell _ _ _ 3 rfl
  have y4 : V1.cell? ⟨V.heap.size, 4, none⟩ = some (.int .i64 xn) := by rw [← hV1]; exact alloc_cell _ _ _ 4 rfl
  have sV : V.heap.size < V1.heap.size := World.block_lt_of_cell? _ _ y0
  rw [hV1]
  clear hV1
  replace u0 := keepC u0 BV.out
  replace u1 := keepC u1 BV.out
  replace l0 := keepC l0 BV.out
  replace l1 := keepC l1 BV.out
  replace l2 := keepC l2 BV.out
  replace l3 := keepC l3 BV.out
  have n0 : ¬ V1.heap.size = d := by omega
  have o0 : ¬ d = V1.heap.size := by omega
  have n1 : ¬ V1.heap.size = h := by omega
  have o1 : ¬ h = V1.heap.size := by omega
  have n2 : ¬ V1.heap.size = V.heap.size := by omega
  have o2 : ¬ V.heap.size = V1.heap.size := by omega
  have hvd : d < V1.heap.size := by omega
  have hvh : h < V1.heap.size := by omega
  clear fz lt
  go_cut [6, 7] (fun s6 s7 wx => ∃ (b : Nat) (m pp : Int), s6 = .pointer (some ⟨b, 0, none⟩) ∧ s7 = .int .i64 E ∧ Hid (Below V1.heap.size V1 wx) ∧ wx.cell? ⟨b, 3, none⟩ = some (.int .i64 m) ∧ wx.cell? ⟨b, 4, none⟩ = some (.int .i64 pp) ∧ V1.heap.size ≤ b ∧ Hid (E = 0 → m = (nd R.s P.toNat).m ∧ pp = (nd R.s P.toNat).p))
  case first =>
    go_region_held3 (fun w'' => w''.cell? ⟨d, 0, none⟩ = some (.slice (some ⟨g, 0, none⟩) ns c0) ∧ w''.cell? ⟨d, 1, none⟩ = some (.slice (some ⟨h, 0, none⟩) 16 c1) ∧ w''.cell? ⟨h, p * 2, none⟩ = some (.int .i64 P) ∧ w''.cell? ⟨h, p * 2 + 1, none⟩ = some (.int .i64 U) ∧ w''.cell? ⟨V.heap.size, 1, none⟩ = some (.int .i64 p)) (go_keep) (first | (go_at_call 10; refine Calls.mono (D.out V1.drew BV.out.drew) ?_; rintro e w5 ⟨nx, ka, kl, kc, rfl, hb3, hx1, hx2⟩; have B5 : Hid (Below V1.heap.size V1 w5) := (Below.refl _ _).drew.trans hb3; have HX : Hid _ := hx1; have gl0 := keepC l0 B5.out; have gl1 := keepC l1 B5.out; have gu0 := keepC u0 B5.out; have gu1 := keepC u1 B5.out; have gy1 := keepC y1 B5.out; clear hb3 hx1 hx2) | (go_at_call 10; refine Calls.mono (D.out (V1.alloc (.cells #[.bool false, .int .i64 0, .int .i64 0, .int .i64 0, .int .i64 0, .slice none 0 0, .int .i64 0, .bool false] 47)).drew (BV.out.trans ((one_belowS V1 _).mono BV.out.size)).drew) ?_; rintro e w5 ⟨nx, ka, kl, kc, rfl, hb3, hx1, hx2⟩; have B5 : Hid (Below V1.heap.size V1 w5) := (one_belowS V1 _).drew.trans (hb3.mono (by simp)); have HX : Hid _ := hx1; have gl0 := keepC l0 B5.out; have gl1 := keepC l1 B5.out; have gu0 := keepC u0 B5.out; have gu1 := keepC u1 B5.out; have gy1 := keepC y1 B5.out; have X3 : Hid (w5.heap[V1.heap.size]? = some (.cells #[.bool false, .int .i64 0, .int .i64 0, .int .i64 0, .int .i64 0, .slice none 0 0, .int .i64 0, .bool false] 47 (0, 0))) := keepB (W := (V1.alloc (.cells #[.bool false, .int .i64 0, .int .i64 0, .int .i64 0, .int .i64 0, .slice none 0 0, .int .i64 0, .bool false] 47)).drew) (heap_alloc_new V1 _) hb3; obtain ⟨z0, z1, z2, z3, z4, z5, z6, z7, zf, zl⟩ := box8_facts X3.out; clear hb3 hx1 hx2))
    · go_wp2_with fail
      go_meet
      case rel =>
        have r := relNA nx (.slice ka kl kc) 47 (Below.refl V1.heap.size V1) B5.out
        exact ⟨_, _, _, rfl, rfl, r.1, r.2.1, r.2.2.1, r.2.2.2, fun h => by rw [HX.out h]; exact ⟨rfl, rfl⟩⟩
    · go_wp2_with fail
      go_meet
      case rel =>
        have r := relNB nx (.slice ka kl kc) (Below.refl V1.heap.size V1) B5.out X3.out
        exact ⟨_, _, _, rfl, rfl, r.1, r.2.1, r.2.2.1, r.2.2.2, fun h => by rw [HX.out h]; exact ⟨rfl, rfl⟩⟩
  case rest =>
    obtain ⟨b, m, pp, rfl, rfl, HB, hm, hpp, hbl, HMM⟩ := hcut
    have I2 : Hid _ := II.out.below (BV.out.trans (HB.out.mono BV.out.size))
    by_cases hE : E = 0
    · subst hE
      obtain ⟨_, k, ek, hk, hku, _⟩ := held_at HE.out
      subst ek
      have hp := (HMM.out rfl).2
      rw [Int.toNat_natCast] at hp
      have HU : Hid (0 = 0 → M = if (nd R.s k).p = -1 then 6 else 0) := fun _ => by rw [← HM.out]; unfold upE; rw [HE.out, if_pos rfl, Int.toNat_natCast]
      by_cases hn : (nd R.s k).p = -1
      · obtain rfl : M = 6 := by have h := HU.out rfl; rw [if_pos hn] at h; exact h
        obtain rfl : pp = -1 := hp.trans hn
        clear II D u0 u1 l0 l1 l2 l3 y0 y1 y2 y3 y4 hp hn
        go_wp2
        refine bodyPost_ret (v := .tuple #[.int .i64 0, .int .i64 6]) (by simp [results, Tryz.results69, go_sem]) rfl ?_
        first | exact ⟨⟨0, rfl⟩, I2.out.bel⟩ | exact ⟨0, rfl, I2.out.bel, fun hE => absurd hE (by decide)⟩
      · obtain rfl : M = 0 := by have h := HU.out rfl; rw [if_neg hn] at h; exact h
        obtain ⟨f, ef, hf, _⟩ := wf.parent_place hk hn
        obtain rfl : pp = (f : Int) := hp.trans ef
        have UPH : Hid (upH R.s (k : Int) = ((f : Int), (nd R.s f).n)) := by show _ = _; unfold upH; rw [Int.toNat_natCast, ef, Int.toNat_natCast]
        have hcf : wc.cell? ⟨g, f * 8 + 1, none⟩ = some (.int .i64 (nd R.s f).n) := by
          obtain ⟨b', o', e, c0, c1, _⟩ := I2.out.nds f hf
          cases e
          rw [Nat.zero_add] at c1
          exact c1
        have hgl : g < wc.heap.size := World.block_lt_of_cell? _ _ hcf
        obtain ⟨m0, m1, m2, m3, mf, ml⟩ := box4_facts I2.out.box
        dsimp only at m0 m1
        rw [HL.out] at m1
        rw [HNS.out] at m0
        have hf2 : f < ns := by rw [← HNS.out]; exact hf
        have hf3 : (f : Int) < (ns : Int) := by omega
        have hnf : ¬ ((f : Int) = -1) := by omega
        have hnf2 : ((f : Int) == -1) = false := by simp [hnf]
        obtain ⟨r0, r1⟩ := I2.out.hand (k := r) (by rw [HL.out]; omega)
        have rf := I2.out.row.frozen
        have hhc : h < wc.heap.size := World.block_lt_of_cell? _ _ r0
        replace y2 := keepC y2 HB.out
        have HS : Hid _ := I2.out.setHand (k := r) (by rw [HL.out]; omega) ((f : Int), (nd R.s f).n) rfl
        obtain ⟨N1, hN1⟩ : ∃ N1, (nd R.s f).n = N1 := ⟨_, rfl⟩
        rw [hN1] at hcf HS UPH
        clear II D u0 u1 l0 l1 l2 l3 y0 y1 y3 y4 hp hn ef hN1 hm HMM hk hku hf HU
        go_wp2_with fail
        go_region
        go_wp2
        refine bodyPost_ret (v := .tuple #[.int .i64 0, .int .i64 0]) (by simp [results, Tryz.results69, go_sem]) rfl ⟨0, rfl, HS.out.1.drew, ?_⟩
        rw [ans_0 rfl, UPH.out]
        exact ⟨rfl, _, HS.out.2.1, HS.out.2.2.below (Below.refl _ _).drew⟩
    · obtain rfl : M = E := by rw [← HM.out]; unfold upE; rw [HE.out, if_neg hE]
      have hz : (M == 0) = false := by simp [hE]
      clear II D u0 u1 l0 l1 l2 l3 y0 y1 y2 y3 y4
      go_wp2
      exact bodyPost_ret (v := .tuple #[.int .i64 0, .int .i64 M]) (by simp [results, Tryz.results69, go_sem]) rfl ⟨0, rfl, I2.out.bel, fun h => absurd h hE⟩
end Go.Proofs.YtgjfmepbphfjoaaGreat

namespace Go.Proofs.YtgjfmepbphfjoaaGreat
open Go.RowKit Go.ChangeShapes Go.WideShapes
set_option linter.unusedVariables false

set_option maxRecDepth 100000 in
set_option maxHeartbeats 4000000 in
theorem withB_no (F : Nat) (eg : ∀ args w, (callFunc F args).run Tryz.prog w = .ok (.enter F args) w) (cb : Nat) (w : World) (hc : w.cell? ⟨cb, 0, none⟩ = some (.func (.func F) #[] #[])) (R : Rl) (x : Ac) (hl : R.hs.length = 16) (hb : ¬ isH x.b) : Deed 111 #[.pointer (some ⟨cb, 0, none⟩)] w R x (bad 4) := fun d h g A V I => by
  rw [(bad_ans 4).2.2]
  obtain ⟨a0, a1, a2, a3, c0, c1, c2, c3⟩ := A
  obtain ⟨xk, xa, xb, xc, xn⟩ := x
  have k0 := (I.bel.cell (World.block_lt_of_cell? _ _ hc)).trans hc
  obtain ⟨l0, l1, l2, l3, fz, lt⟩ := box4_facts I.box
  dsimp only at l0 l1 l2 l3
  have hdv : d < V.heap.size := lt
  have hcv : cb < V.heap.size := World.block_lt_of_cell? _ _ k0
  have II : Hid (WI w R d h g _ V) := I
  have DH : Hid (∀ W, Calls _ _ _ _ _) := fun W => isHand_any ⟨a0, a1, a2, a3, c0, c1, c2, c3⟩ R xb W hl
  dsimp only [rlV] at DH
  show Calls Tryz.prog _ #[.pointer (some ⟨d, 0, none⟩), .agg #[.int .i64 xk, .int .i64 xa, .int .i64 xb, .int .i64 xc, .int .i64 xn], .pointer (some ⟨cb, 0, none⟩)] V _
  rw [decide_eq_false hb] at DH
  clear hl I hc hb
  generalize R.s.length = ns at *
  generalize R.hs.length = nh at *
  generalize R.i.length = ni at *
  generalize R.t.length = nt at *
  go_enter Tryz.func111, Tryz.ntmps111
  go_upto_region 1 with fail
  obtain ⟨V1, hV1⟩ : ∃ V1, V.alloc (.cells #[.int .i64 xk, .int .i64 xa, .int .i64 xb, .int .i64 xc, .int .i64 xn] 41) = V1 := ⟨_, rfl⟩
  have BV : Hid (Below V.heap.size V V1) := by rw [← hV1]; exact one_belowS _ _
  have y0 : V1.cell? ⟨V.heap.size, 0, none⟩ = some (.int .i64 xk) := by rw [← hV1]; exact alloc_cell _ _ _ 0 rfl
  have y1 : V1.cell? ⟨V.heap.size, 1, none⟩ = some (.int .i64 xa) := by rw [← hV1]; exact alloc_cell _ _ _ 1 rfl
  have y2 : V1.cell? ⟨V.heap.size, 2, none⟩ = some (.int .i64 xb) := by rw [← hV1]; exact alloc_cell _ _ _ 2 rfl
  have y3 : V1.cell? ⟨V.heap.size, 3, none⟩ = some (.int .i64 xc) := by rw [← hV1]; exact alloc_cell _ _ _ 3 rfl
  have y4 : V1.cell? ⟨V.heap.size, 4, none⟩ = some (.int .i64 xn) := by rw [← hV1]; exact alloc_cell _ _ _ 4 rfl
  have sV : V.heap.size < V1.heap.size := World.block_lt_of_cell? _ _ y0
  rw [hV1]
  clear hV1
  replace l0 := keepC l0 BV.out
  replace l1 := keepC l1 BV.out
  replace l2 := keepC l2 BV.out
  replace l3 := keepC l3 BV.out
  replace k0 := keepC k0 BV.out
  have n0 : ¬ V1.heap.size = d := by omega
  have o0 : ¬ d = V1.heap.size := by omega
  have n2 : ¬ V1.heap.size = cb := by omega
  have o2 : ¬ cb = V1.heap.size := by omega
  have n3 : ¬ V1.heap.size = V.heap.size := by omega
  have o3 : ¬ V.heap.size = V1.heap.size := by omega
  have hvd : d < V1.heap.size := by omega
  have hvcb : cb < V1.heap.size := by omega
  clear fz lt
  go_region_held3 (fun w'' => w''.cell? ⟨d, 0, none⟩ = some (.slice a0 ns c0) ∧ w''.cell? ⟨d, 1, none⟩ = some (.slice a1 nh c1) ∧ w''.cell? ⟨d, 2, none⟩ = some (.slice a2 ni c2) ∧ w''.cell? ⟨d, 3, none⟩ = some (.slice a3 nt c3) ∧ w''.cell? ⟨V.heap.size, 2, none⟩ = some (.int .i64 xb)) (go_keep) (first | (go_at_call 22; refine Calls.mono (DH.out V1.drew) ?_; rintro e w3 ⟨rfl, hb3⟩; have B3 : Hid (Below V1.heap.size V1 w3) := (Below.refl _ _).drew.trans hb3; have gl0 := keepC l0 B3.out; have gl1 := keepC l1 B3.out; have gl2 := keepC l2 B3.out; have gl3 := keepC l3 B3.out; have gy2 := keepC y2 B3.out; clear hb3))
  have I2 : Hid _ := II.out.below (BV.out.trans (B3.out.mono BV.out.size))
  go_wp2
  exact bodyPost_ret (v := .tuple #[.int .i64 0, .int .i64 4]) (by simp [results, Tryz.results111, go_sem]) rfl ⟨0, rfl, I2.out.bel, fun hE => absurd hE (by decide)⟩

set_option maxRecDepth 100000 in
set_option maxHeartbeats 4000000 in
theorem withB_yes (F : Nat) (eg : ∀ args w, (callFunc F args).run Tryz.prog w = .ok (.enter F args) w) (cb : Nat) (w : World) (hc : w.cell? ⟨cb, 0, none⟩ = some (.func (.func F) #[] #[])) (R : Rl) (x : Ac) (hl : R.hs.length = 16) (hb : isH x.b) (q : Rs) (hF : Deed F #[] w R x q) : Deed 111 #[.pointer (some ⟨cb, 0, none⟩)] w R x q := fun d h g A V I => by
  have D : Hid (∀ V', WI w R d h g A V' → Calls Tryz.prog F #[.pointer (some ⟨d, 0, none⟩), acV x] V' fun e V' => ∃ o : Int, e = .returned (.tuple #[.int .i64 o, .int .i64 q.e]) ∧ Below w.heap.size w V' ∧ (q.e = 0 → o = q.o ∧ ∃ B : RA, V'.heap[d]? = some (bxR B q.r) ∧ RlF w.heap.size d V' B q.r)) := fun V' I' => hF d h g A V' I'
  clear hF
  dsimp only [acV] at D
  obtain ⟨a0, a1, a2, a3, c0, c1, c2, c3⟩ := A
  obtain ⟨xk, xa, xb, xc, xn⟩ := x
  have k0 := (I.bel.cell (World.block_lt_of_cell? _ _ hc)).trans hc
  obtain ⟨l0, l1, l2, l3, fz, lt⟩ := box4_facts I.box
  dsimp only at l0 l1 l2 l3
  have hdv : d < V.heap.size := lt
  have hcv : cb < V.heap.size := World.block_lt_of_cell? _ _ k0
  have II : Hid (WI w R d h g _ V) := I
  have DH : Hid (∀ W, Calls _ _ _ _ _) := fun W => isHand_any ⟨a0, a1, a2, a3, c0, c1, c2, c3⟩ R xb W hl
  dsimp only [rlV] at DH
  show Calls Tryz.prog _ #[.pointer (some ⟨d, 0, none⟩), .agg #[.int .i64 xk, .int .i64 xa, .int .i64 xb, .int .i64 xc, .int .i64 xn], .pointer (some ⟨cb, 0, none⟩)] V _
  rw [decide_eq_true hb] at DH
  clear hl I hc hb
  generalize R.s.length = ns at *
  generalize R.hs.length = nh at *
  generalize R.i.length = ni at *
  generalize R.t.length = nt at *
  go_enter Tryz.func111, Tryz.ntmps111
  go_upto_region 1 with fail
  obtain ⟨V1, hV1⟩ : ∃ V1, V.alloc (.cells #[.int .i64 xk, .int .i64 xa, .int .i64 xb, .int .i64 xc, .int .i64 xn] 41) = V1 := ⟨_, rfl⟩
  have BV : Hid (Below V.heap.size V V1) := by rw [← hV1]; exact one_belowS _ _
  have y0 : V1.cell? ⟨V.heap.size, 0, none⟩ = some (.int .i64 xk) := by rw [← hV1]; exact alloc_cell _ _ _ 0 rfl
  have y1 : V1.cell? ⟨V.heap.size, 1, none⟩ = some (.int .i64 xa) := by rw [← hV1]; exact alloc_cell _ _ _ 1 rfl
  have y2 : V1.cell? ⟨V.heap.size, 2, none⟩ = some (.int .i64 xb) := by rw [← hV1]; exact alloc_cell _ _ _ 2 rfl
  have y3 : V1.cell? ⟨V.heap.size, 3, none⟩ = some (.int .i64 xc) := by rw [← hV1]; exact alloc_cell _ _ _ 3 rfl
  have y4 : V1.cell? ⟨V.heap.size, 4, none⟩ = some (.int .i64 xn) := by rw [← hV1]; exact alloc_cell _ _ _ 4 rfl
  have sV : V.heap.size < V1.heap.size := World.block_lt_of_cell? _ _ y0
  rw [hV1]
  clear hV1
  replace l0 := keepC l0 BV.out
  replace l1 := keepC l1 BV.out
  replace l2 := keepC l2 BV.out
  replace l3 := keepC l3 BV.out
  replace k0 := keepC k0 BV.out
  have n0 : ¬ V1.heap.size = d := by omega
  have o0 : ¬ d = V1.heap.size := by omega
  have n2 : ¬ V1.heap.size = cb := by omega
  have o2 : ¬ cb = V1.heap.size := by omega
  have n3 : ¬ V1.heap.size = V.heap.size := by omega
  have o3 : ¬ V.heap.size = V1.heap.size := by omega
  have hvd : d < V1.heap.size := by omega
  have hvcb : cb < V1.heap.size := by omega
  clear fz lt
  go_region_held3 (fun w'' => w''.cell? ⟨d, 0, none⟩ = some (.slice a0 ns c0) ∧ w''.cell? ⟨d, 1, none⟩ = some (.slice a1 nh c1) ∧ w''.cell? ⟨d, 2, none⟩ = some (.slice a2 ni c2) ∧ w''.cell? ⟨d, 3, none⟩ = some (.slice a3 nt c3) ∧ w''.cell? ⟨V.heap.size, 2, none⟩ = some (.int .i64 xb)) (go_keep) (first | (go_at_call 22; refine Calls.mono (DH.out V1.drew) ?_; rintro e w3 ⟨rfl, hb3⟩; have B3 : Hid (Below V1.heap.size V1 w3) := (Below.refl _ _).drew.trans hb3; have gl0 := keepC l0 B3.out; have gl1 := keepC l1 B3.out; have gl2 := keepC l2 B3.out; have gl3 := keepC l3 B3.out; have gy2 := keepC y2 B3.out; clear hb3))
  have I2 : Hid _ := II.out.below (BV.out.trans (B3.out.mono BV.out.size))
  replace k0 := keepC k0 B3.out
  replace y0 := keepC y0 B3.out
  replace y1 := keepC y1 B3.out
  replace y2 := keepC y2 B3.out
  replace y3 := keepC y3 B3.out
  replace y4 := keepC y4 B3.out
  clear gl0 gl1 gl2 gl3 gy2 l0 l1 l2 l3
  go_wp2_with fail
  refine Calls.mono (D.out _ I2.out) ?_
  rintro e V5 ⟨o, rfl, hb5, hq5⟩
  have HB5 : Hid _ := hb5
  have HQ5 : Hid _ := hq5
  clear hb5 hq5 D II I2
  go_wp2
  exact bodyPost_ret (v := .tuple #[.int .i64 o, .int .i64 q.e]) (by simp [results, Tryz.results111, go_sem]) rfl ⟨o, rfl, HB5.out, HQ5.out⟩

set_option maxRecDepth 100000 in
theorem change_makes (F : Nat) (W : World) : Calls Tryz.prog 56 #[.func (.func F) #[] #[]] W fun e w' => e = .returned (.func (.func 102) #[] #[.pointer (some ⟨W.heap.size, 0, none⟩)]) ∧ Below W.heap.size W w' ∧ w'.cell? ⟨W.heap.size, 0, none⟩ = some (.func (.func F) #[] #[]) := by
  go_enter Tryz.func56, Tryz.ntmps56
  go_wp2
  go_ret
  exact ⟨rfl, one_belowS _ _, alloc_cell _ _ _ 0 rfl⟩
set_option maxRecDepth 100000 in
theorem mark_makes (F : Nat) (W : World) : Calls Tryz.prog 60 #[.func (.func F) #[] #[]] W fun e w' => e = .returned (.func (.func 107) #[] #[.pointer (some ⟨W.heap.size, 0, none⟩)]) ∧ Below W.heap.size W w' ∧ w'.cell? ⟨W.heap.size, 0, none⟩ = some (.func (.func F) #[] #[]) := by
  go_enter Tryz.func60, Tryz.ntmps60
  go_wp2
  go_ret
  exact ⟨rfl, one_belowS _ _, alloc_cell _ _ _ 0 rfl⟩
set_option maxRecDepth 100000 in
theorem tellHowMany_makes (F : Nat) (W : World) : Calls Tryz.prog 63 #[.func (.func F) #[] #[]] W fun e w' => e = .returned (.func (.func 108) #[] #[.pointer (some ⟨W.heap.size, 0, none⟩)]) ∧ Below W.heap.size W w' ∧ w'.cell? ⟨W.heap.size, 0, none⟩ = some (.func (.func F) #[] #[]) := by
  go_enter Tryz.func63, Tryz.ntmps63
  go_wp2
  go_ret
  exact ⟨rfl, one_belowS _ _, alloc_cell _ _ _ 0 rfl⟩
set_option maxRecDepth 100000 in
theorem withHandB_makes (F : Nat) (W : World) : Calls Tryz.prog 66 #[.func (.func F) #[] #[]] W fun e w' => e = .returned (.func (.func 111) #[] #[.pointer (some ⟨W.heap.size, 0, none⟩)]) ∧ Below W.heap.size W w' ∧ w'.cell? ⟨W.heap.size, 0, none⟩ = some (.func (.func F) #[] #[]) := by
  go_enter Tryz.func66, Tryz.ntmps66
  go_wp2
  go_ret
  exact ⟨rfl, one_belowS _ _, alloc_cell _ _ _ 0 rfl⟩
end Go.Proofs.YtgjfmepbphfjoaaGreat
