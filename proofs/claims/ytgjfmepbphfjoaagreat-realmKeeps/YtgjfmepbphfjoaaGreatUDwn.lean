/-
  A deed: insert.
-/
import Derived.Test.YtgjfmepbphfjoaaGreatUDwe
namespace Go.Proofs.YtgjfmepbphfjoaaGreat
open Go.RowKit Go.ChangeShapes Go.WideShapes
set_option linter.unusedVariables false

set_option maxRecDepth 100000 in
set_option maxHeartbeats 4000000 in
theorem insert_0 (w : World) (R : Rl) (x : Ac) (wf : WF R.s) (hl : R.hs.length = 16) (ha : isH x.a) (hbb : isH x.b) (hcc : x.c < 0) : Deed 67 #[] w R x (aInsert R (hd R x.a) (hd R x.b) []) := fun d h g A V I => by
  unfold aInsert
  rw [ans_e]
  obtain ⟨HS0, hHS0⟩ : ∃ l : List (Int × Int), [] = l := ⟨_, rfl⟩
  have hm : HS0.length ≤ 1 := by rw [← hHS0]; decide
  have h0 : HS0.length = 0 := by rw [← hHS0]; rfl
  rw [hHS0]
  obtain ⟨a0, a1, a2, a3, c0, c1, c2, c3⟩ := A
  obtain rfl : a0 = some ⟨g, 0, none⟩ := I.a0
  obtain rfl : a1 = some ⟨h, 0, none⟩ := I.a1
  obtain ⟨xk, xa, xb, xc, xn⟩ := x
  obtain ⟨p, hp, hp16⟩ := natH ha
  dsimp only at hp
  subst hp
  obtain ⟨u0, u1⟩ := I.hand (k := p) (by omega)
  obtain ⟨r, hr, hr16⟩ := natH hbb
  dsimp only at hr
  subst hr
  obtain ⟨v0, v1⟩ := I.hand (k := r) (by omega)
  have II : Hid (WI w R d h g _ V) := I
  obtain ⟨l0, l1, l2, l3, fz, lt⟩ := box4_facts I.box
  dsimp only at l0 l1 l2 l3
  rw [hl] at l1
  have hdv : d < V.heap.size := lt
  have hhv : h < V.heap.size := World.block_lt_of_cell? _ _ u0
  have hp2 : (p : Int) < 16 := by omega
  have hr2 : (r : Int) < 16 := by omega
  show Calls Tryz.prog _ #[.pointer (some ⟨d, 0, none⟩), .agg #[.int .i64 xk, .int .i64 p, .int .i64 r, .int .i64 xc, .int .i64 xn]] V _
  obtain ⟨ns, hns⟩ : ∃ n, R.s.length = n := ⟨_, rfl⟩
  have HNS : Hid (R.s.length = ns) := hns
  have D : Hid (∀ (ha : Option Addr) (hc : Nat) W, Below V.heap.size V W → HandsAt W ha HS0 → Calls Tryz.prog 112 #[.agg #[.slice (some ⟨g, 0, none⟩) R.s.length c0], .agg #[.int .i64 (hd R (p : Int)).1, .int .i64 (hd R (p : Int)).2], .agg #[.int .i64 (hd R (r : Int)).1, .int .i64 (hd R (r : Int)).2], .slice ha HS0.length hc] W fun e w' => ∃ a' c', e = .returned (.tuple #[.agg #[.slice a' (rS (insE R.s (hd R (p : Int)).1 (hd R (p : Int)).2 (hd R (r : Int)).1 (hd R (r : Int)).2 HS0) (insS R.s (hd R (p : Int)).1 (hd R (r : Int)).1 HS0)).length c'], .int .i64 (insE R.s (hd R (p : Int)).1 (hd R (p : Int)).2 (hd R (r : Int)).1 (hd R (r : Int)).2 HS0)]) ∧ Below W.heap.size W w' ∧ St (fun b => b < W.heap.size) (fun V => NdsAt V a' (rS (insE R.s (hd R (p : Int)).1 (hd R (p : Int)).2 (hd R (r : Int)).1 (hd R (r : Int)).2 HS0) (insS R.s (hd R (p : Int)).1 (hd R (r : Int)).1 HS0))) w') := fun ha hc W hW hH => insert_ans R.s _ _ HS0 ha hc wf hm (some ⟨g, 0, none⟩) c0 W (I.nds.below hW) hH
  clear ha hbb hl
  generalize hd R (p : Int) = hA at *
  obtain ⟨P, U⟩ := hA
  generalize hd R (r : Int) = hB at *
  obtain ⟨P2, U2⟩ := hB
  dsimp only at u0 u1 v0 v1 D ⊢
  obtain ⟨E, hE⟩ : ∃ E, insE R.s P U P2 U2 HS0 = E := ⟨_, rfl⟩
  obtain ⟨T, hT⟩ : ∃ T, insS R.s P P2 HS0 = T := ⟨_, rfl⟩
  rw [hE, hT] at D
  rw [hE, hT]
  clear hE hT
  rw [hns] at D l0
  clear hns I hm
  have HH : Hid (∀ W : World, HandsAt W none HS0) := fun W i hi => by omega
  rw [h0] at D
  clear h0 hHS0
  dsimp only at hcc
  go_enter Tryz.func67, Tryz.ntmps67
  go_upto_region 6 with fail
  obtain ⟨V1, hV1⟩ : ∃ V1, V.alloc (.cells #[.int .i64 xk, .int .i64 p, .int .i64 r, .int .i64 xc, .int .i64 xn] 41) = V1 := ⟨_, rfl⟩
  have BV : Hid (Below V.heap.size V V1) := by rw [← hV1]; exact one_belowS _ _
  have y0 : V1.cell? ⟨V.heap.size, 0, none⟩ = some (.int .i64 xk) := by rw [← hV1]; exact alloc_cell _ _ _ 0 rfl
  have y1 : V1.cell? ⟨V.heap.size, 1, none⟩ = some (.int .i64 p) := by rw [← hV1]; exact alloc_cell _ _ _ 1 rfl
  have y2 : V1.cell? ⟨V.heap.size, 2, none⟩ = some (.int .i64 r) := by rw [← hV1]; exact alloc_cell _ _ _ 2 rfl
  have y3 : V1.cell? ⟨V.heap.size, 3, none⟩ = some (.int .i64 xc) := by rw [← hV1]; exact alloc_cell _ _ _ 3 rfl
  have y4 : V1.cell? ⟨V.heap.size, 4, none⟩ = some (.int .i64 xn) := by rw [← hV1]; exact alloc_cell _ _ _ 4 rfl
  have sV : V.heap.size < V1.heap.size := World.block_lt_of_cell? _ _ y0
  rw [hV1]
  clear hV1
  replace u0 := keepC u0 BV.out
  replace u1 := keepC u1 BV.out
  replace l0 := keepC l0 BV.out
  replace l1 := keepC l1 BV.out
  replace l2 := keepC l2 BV.out
  replace l3 := keepC l3 BV.out
  have n0 : ¬ V1.heap.size = d := by omega
  have o0 : ¬ d = V1.heap.size := by omega
  have n1 : ¬ V1.heap.size = h := by omega
  have o1 : ¬ h = V1.heap.size := by omega
  have n2 : ¬ V1.heap.size = V.heap.size := by omega
  have o2 : ¬ V.heap.size = V1.heap.size := by omega
  have hvd : d < V1.heap.size := by omega
  have hvh : h < V1.heap.size := by omega
  clear fz lt
  replace v0 := keepC v0 BV.out
  replace v1 := keepC v1 BV.out
  go_cut [7, 8] (fun s7 s8 wx => ∃ (b : Nat) (a' : Option Addr) (c' : Nat), s7 = .pointer (some ⟨b, 0, none⟩) ∧ s8 = .int .i64 E ∧ Hid (Below V1.heap.size V1 wx) ∧ Hid (St (fun b => b < V1.heap.size) (fun V => NdsAt V a' (rS E T)) wx) ∧ wx.cell? ⟨b, 0, none⟩ = some (.slice a' (rS E T).length c') ∧ V1.heap.size ≤ b)
  case first =>
    go_region_held3 (fun w'' => w''.cell? ⟨d, 0, none⟩ = some (.slice (some ⟨g, 0, none⟩) ns c0) ∧ w''.cell? ⟨d, 1, none⟩ = some (.slice (some ⟨h, 0, none⟩) 16 c1) ∧ w''.cell? ⟨h, p * 2, none⟩ = some (.int .i64 P) ∧ w''.cell? ⟨h, p * 2 + 1, none⟩ = some (.int .i64 U) ∧ w''.cell? ⟨h, r * 2, none⟩ = some (.int .i64 P2) ∧ w''.cell? ⟨h, r * 2 + 1, none⟩ = some (.int .i64 U2) ∧ w''.cell? ⟨V.heap.size, 1, none⟩ = some (.int .i64 p) ∧ w''.cell? ⟨V.heap.size, 2, none⟩ = some (.int .i64 r)) (go_keep) (first | (go_at_call 112; refine Calls.mono (D.out none 0 V1.drew BV.out.drew ((HH.out V1).below (Below.refl _ _).drew)) ?_; rintro e w3 ⟨a', c', rfl, hb3, hn3⟩; have B3 : Hid (Below V1.heap.size V1 w3) := (Below.refl _ _).drew.trans hb3; have N3 : Hid (St (fun b => b < V1.heap.size) (fun V => NdsAt V a' (rS E T)) w3) := hn3; have gl0 := keepC l0 B3.out; have gl1 := keepC l1 B3.out; have gu0 := keepC u0 B3.out; have gu1 := keepC u1 B3.out; have gv0 := keepC v0 B3.out; have gv1 := keepC v1 B3.out; have gy1 := keepC y1 B3.out; have gy2 := keepC y2 B3.out; clear hb3 hn3) | (go_at_call 112; refine Calls.mono (D.out none 0 (V1.alloc (.cells #[.slice none 0 0] 24)).drew (BV.out.trans ((one_belowS V1 _).mono BV.out.size)).drew ((HH.out V1).below (one_belowS V1 _).drew)) ?_; rintro e w3 ⟨a', c', rfl, hb3, hn3⟩; have B3 : Hid (Below V1.heap.size V1 w3) := (one_belowS V1 _).drew.trans (hb3.mono (by simp)); have N3 : Hid (St (fun b => b < V1.heap.size + 1) (fun V => NdsAt V a' (rS E T)) w3) := (by have h := hn3; simp only [World.size_alloc, World.size_drew] at h; exact h); have gl0 := keepC l0 B3.out; have gl1 := keepC l1 B3.out; have gu0 := keepC u0 B3.out; have gu1 := keepC u1 B3.out; have gv0 := keepC v0 B3.out; have gv1 := keepC v1 B3.out; have gy1 := keepC y1 B3.out; have gy2 := keepC y2 B3.out; have X3 : Hid (w3.heap[V1.heap.size]? = some (.cells #[.slice none 0 0] 24 (0, 0))) := keepB (W := (V1.alloc (.cells #[.slice none 0 0] 24)).drew) (heap_alloc_new V1 _) hb3; have x3 := box_cell X3.out; have xf := box_frozen (o := 0) X3.out; have xl : V1.heap.size < w3.heap.size := box_lt X3.out; clear hb3 hn3))
    · go_wp2_with fail
      go_meet
      case rel => exact ⟨_, _, _, rfl, rfl, relA _ _ (Below.refl V1.heap.size V1) B3.out N3.out⟩
    · go_wp2_with fail
      go_meet
      case rel => exact ⟨_, _, _, rfl, rfl, relB _ (Below.refl V1.heap.size V1) B3.out N3.out X3.out⟩
  case rest =>
    obtain ⟨b, a', c', rfl, rfl, HB, HN, hcell, hbl⟩ := hcut
    have I2 : Hid _ := II.out.below (BV.out.trans (HB.out.mono BV.out.size))
    have HS : Hid _ := I2.out.store c' HN.out (by have h1 := II.out.base; have h2 := BV.out.size; omega)
    obtain ⟨m0, m1, m2, m3, mf, ml⟩ := box4_facts I2.out.box
    have bl : b < wc.heap.size := World.block_lt_of_cell? _ _ hcell
    have nbd : ¬ b = d := by omega
    clear II D u0 u1 v0 v1 l0 l1 y1 y2
    go_wp2
    refine bodyPost_ret (v := .tuple #[.int .i64 0, .int .i64 E]) (by simp [results, Tryz.results67, go_sem]) rfl ⟨0, rfl, HS.out.1, fun hE => ?_⟩
    rw [ans_0 hE]
    have h2 := HS.out.2
    rw [hE, rS_ok] at h2
    rw [hE, rS_ok]
    exact ⟨rfl, _, h2⟩
set_option maxRecDepth 100000 in
set_option maxHeartbeats 4000000 in
theorem insert_no (w : World) (R : Rl) (x : Ac) (wf : WF R.s) (hl : R.hs.length = 16) (ha : isH x.a) (hbb : isH x.b) (hcc : ¬ x.c < 0) (hcn : ¬ isH x.c) : Deed 67 #[] w R x (bad 4) := fun d h g A V I => by
  rw [(bad_ans 4).2.2]
  obtain ⟨a0, a1, a2, a3, c0, c1, c2, c3⟩ := A
  obtain rfl : a0 = some ⟨g, 0, none⟩ := I.a0
  obtain rfl : a1 = some ⟨h, 0, none⟩ := I.a1
  obtain ⟨xk, xa, xb, xc, xn⟩ := x
  obtain ⟨p, hp, hp16⟩ := natH ha
  dsimp only at hp
  subst hp
  obtain ⟨u0, u1⟩ := I.hand (k := p) (by omega)
  obtain ⟨r, hr, hr16⟩ := natH hbb
  dsimp only at hr
  subst hr
  obtain ⟨v0, v1⟩ := I.hand (k := r) (by omega)
  have II : Hid (WI w R d h g _ V) := I
  obtain ⟨l0, l1, l2, l3, fz, lt⟩ := box4_facts I.box
  dsimp only at l0 l1 l2 l3
  rw [hl] at l1
  have hdv : d < V.heap.size := lt
  have hhv : h < V.heap.size := World.block_lt_of_cell? _ _ u0
  have hp2 : (p : Int) < 16 := by omega
  have hr2 : (r : Int) < 16 := by omega
  show Calls Tryz.prog _ #[.pointer (some ⟨d, 0, none⟩), .agg #[.int .i64 xk, .int .i64 p, .int .i64 r, .int .i64 xc, .int .i64 xn]] V _
  obtain ⟨ns, hns⟩ : ∃ n, R.s.length = n := ⟨_, rfl⟩
  have HNS : Hid (R.s.length = ns) := hns
  have DH : Hid (∀ W, Calls _ _ _ _ _) := fun W => isHand_any ⟨some ⟨g, 0, none⟩, some ⟨h, 0, none⟩, a2, a3, c0, c1, c2, c3⟩ R xc W hl
  dsimp only [rlV] at DH
  rw [hl] at DH
  rw [decide_eq_false hcn] at DH
  obtain ⟨ni, hni⟩ : ∃ n, R.i.length = n := ⟨_, rfl⟩
  obtain ⟨nt, hnt⟩ : ∃ n, R.t.length = n := ⟨_, rfl⟩
  rw [hns, hni, hnt] at DH
  rw [hni] at l2
  rw [hnt] at l3
  clear hni hnt
  rw [hns] at l0
  dsimp only at hcc
  have hc2 : 0 ≤ xc := by omega
  clear ha hbb hl hns I hcn hcc u0 u1 v0 v1 wf
  go_enter Tryz.func67, Tryz.ntmps67
  go_upto_region 3 with fail
  obtain ⟨V1, hV1⟩ : ∃ V1, V.alloc (.cells #[.int .i64 xk, .int .i64 p, .int .i64 r, .int .i64 xc, .int .i64 xn] 41) = V1 := ⟨_, rfl⟩
  have BV : Hid (Below V.heap.size V V1) := by rw [← hV1]; exact one_belowS _ _
  have y0 : V1.cell? ⟨V.heap.size, 0, none⟩ = some (.int .i64 xk) := by rw [← hV1]; exact alloc_cell _ _ _ 0 rfl
  have y1 : V1.cell? ⟨V.heap.size, 1, none⟩ = some (.int .i64 p) := by rw [← hV1]; exact alloc_cell _ _ _ 1 rfl
  have y2 : V1.cell? ⟨V.heap.size, 2, none⟩ = some (.int .i64 r) := by rw [← hV1]; exact alloc_cell _ _ _ 2 rfl
  have y3 : V1.cell? ⟨V.heap.size, 3, none⟩ = some (.int .i64 xc) := by rw [← hV1]; exact alloc_cell _ _ _ 3 rfl
  have y4 : V1.cell? ⟨V.heap.size, 4, none⟩ = some (.int .i64 xn) := by rw [← hV1]; exact alloc_cell _ _ _ 4 rfl
  have sV : V.heap.size < V1.heap.size := World.block_lt_of_cell? _ _ y0
  rw [hV1]
  clear hV1
  replace l0 := keepC l0 BV.out
  replace l1 := keepC l1 BV.out
  replace l2 := keepC l2 BV.out
  replace l3 := keepC l3 BV.out
  have n0 : ¬ V1.heap.size = d := by omega
  have o0 : ¬ d = V1.heap.size := by omega
  have n1 : ¬ V1.heap.size = h := by omega
  have o1 : ¬ h = V1.heap.size := by omega
  have n2 : ¬ V1.heap.size = V.heap.size := by omega
  have o2 : ¬ V.heap.size = V1.heap.size := by omega
  have hvd : d < V1.heap.size := by omega
  have hvh : h < V1.heap.size := by omega
  clear fz lt
  go_region_held3 (fun w'' => w''.cell? ⟨d, 0, none⟩ = some (.slice (some ⟨g, 0, none⟩) ns c0) ∧ w''.cell? ⟨d, 1, none⟩ = some (.slice (some ⟨h, 0, none⟩) 16 c1) ∧ w''.cell? ⟨d, 2, none⟩ = some (.slice a2 ni c2) ∧ w''.cell? ⟨d, 3, none⟩ = some (.slice a3 nt c3) ∧ w''.cell? ⟨V.heap.size, 3, none⟩ = some (.int .i64 xc)) (go_keep) (first | (go_at_call 22; refine Calls.mono (DH.out V1.drew) ?_; rintro e w2 ⟨rfl, hb2⟩; have B2 : Hid (Below V1.heap.size V1 w2) := (Below.refl _ _).drew.trans hb2; have gl0 := keepC l0 B2.out; have gl1 := keepC l1 B2.out; have gl2 := keepC l2 B2.out; have gl3 := keepC l3 B2.out; have gy3 := keepC y3 B2.out; clear hb2))
  have I2 : Hid _ := II.out.below (BV.out.trans (B2.out.mono BV.out.size))
  go_wp2
  refine bodyPost_ret (v := .tuple #[.int .i64 0, .int .i64 4]) (by simp [results, Tryz.results67, go_sem]) rfl ?_
  first | exact ⟨0, rfl, I2.out.bel, fun hE => absurd hE (by decide)⟩ | exact ⟨⟨0, rfl⟩, I2.out.bel⟩

theorem hands_oneD {W : World} {b : Nat} {x y : Int} (h0 : W.cell? ⟨b, 0, none⟩ = some (.int .i64 x)) (h1 : W.cell? ⟨b, 1, none⟩ = some (.int .i64 y)) : HandsAt W (some ⟨b, 0, none⟩) [(x, y)] := fun i hi => by
  obtain rfl : i = 0 := by simpa using hi
  exact ⟨b, 0, rfl, h0, h1⟩

set_option maxRecDepth 100000 in
set_option maxHeartbeats 4000000 in
theorem insert_1 (w : World) (R : Rl) (x : Ac) (wf : WF R.s) (hl : R.hs.length = 16) (ha : isH x.a) (hbb : isH x.b) (hcn : isH x.c) : Deed 67 #[] w R x (aInsert R (hd R x.a) (hd R x.b) [hd R x.c]) := fun d h g A V I => by
  unfold aInsert
  rw [ans_e]
  obtain ⟨HS0, hHS0⟩ : ∃ l : List (Int × Int), [hd R x.c] = l := ⟨_, rfl⟩
  have hm : HS0.length ≤ 1 := by rw [← hHS0]; simp
  have h0 : HS0.length = 1 := by rw [← hHS0]; rfl
  rw [hHS0]
  obtain ⟨a0, a1, a2, a3, c0, c1, c2, c3⟩ := A
  obtain rfl : a0 = some ⟨g, 0, none⟩ := I.a0
  obtain rfl : a1 = some ⟨h, 0, none⟩ := I.a1
  obtain ⟨xk, xa, xb, xc, xn⟩ := x
  obtain ⟨p, hp, hp16⟩ := natH ha
  dsimp only at hp
  subst hp
  obtain ⟨u0, u1⟩ := I.hand (k := p) (by omega)
  obtain ⟨r, hr, hr16⟩ := natH hbb
  dsimp only at hr
  subst hr
  obtain ⟨v0, v1⟩ := I.hand (k := r) (by omega)
  have II : Hid (WI w R d h g _ V) := I
  obtain ⟨l0, l1, l2, l3, fz, lt⟩ := box4_facts I.box
  dsimp only at l0 l1 l2 l3
  rw [hl] at l1
  have hdv : d < V.heap.size := lt
  have hhv : h < V.heap.size := World.block_lt_of_cell? _ _ u0
  have hp2 : (p : Int) < 16 := by omega
  have hr2 : (r : Int) < 16 := by omega
  obtain ⟨s, hs, hs16⟩ := natH hcn
  dsimp only at hs
  subst hs
  dsimp only at hHS0
  have DHT : decide (isH (s : Int)) = true := decide_eq_true hcn
  obtain ⟨t0, t1⟩ := I.hand (k := s) (by omega)
  have hs2 : (s : Int) < 16 := by omega
  show Calls Tryz.prog _ #[.pointer (some ⟨d, 0, none⟩), .agg #[.int .i64 xk, .int .i64 p, .int .i64 r, .int .i64 s, .int .i64 xn]] V _
  obtain ⟨ns, hns⟩ : ∃ n, R.s.length = n := ⟨_, rfl⟩
  have HNS : Hid (R.s.length = ns) := hns
  have D : Hid (∀ (ha : Option Addr) (hc : Nat) W, Below V.heap.size V W → HandsAt W ha HS0 → Calls Tryz.prog 112 #[.agg #[.slice (some ⟨g, 0, none⟩) R.s.length c0], .agg #[.int .i64 (hd R (p : Int)).1, .int .i64 (hd R (p : Int)).2], .agg #[.int .i64 (hd R (r : Int)).1, .int .i64 (hd R (r : Int)).2], .slice ha HS0.length hc] W fun e w' => ∃ a' c', e = .returned (.tuple #[.agg #[.slice a' (rS (insE R.s (hd R (p : Int)).1 (hd R (p : Int)).2 (hd R (r : Int)).1 (hd R (r : Int)).2 HS0) (insS R.s (hd R (p : Int)).1 (hd R (r : Int)).1 HS0)).length c'], .int .i64 (insE R.s (hd R (p : Int)).1 (hd R (p : Int)).2 (hd R (r : Int)).1 (hd R (r : Int)).2 HS0)]) ∧ Below W.heap.size W w' ∧ St (fun b => b < W.heap.size) (fun V => NdsAt V a' (rS (insE R.s (hd R (p : Int)).1 (hd R (p : Int)).2 (hd R (r : Int)).1 (hd R (r : Int)).2 HS0) (insS R.s (hd R (p : Int)).1 (hd R (r : Int)).1 HS0))) w') := fun ha hc W hW hH => insert_ans R.s _ _ HS0 ha hc wf hm (some ⟨g, 0, none⟩) c0 W (I.nds.below hW) hH
  have DH : Hid (∀ W, Calls _ _ _ _ _) := fun W => isHand_any ⟨some ⟨g, 0, none⟩, some ⟨h, 0, none⟩, a2, a3, c0, c1, c2, c3⟩ R (s : Int) W hl
  dsimp only [rlV] at DH
  rw [hl] at DH
  rw [DHT] at DH
  obtain ⟨ni, hni⟩ : ∃ n, R.i.length = n := ⟨_, rfl⟩
  obtain ⟨nt, hnt⟩ : ∃ n, R.t.length = n := ⟨_, rfl⟩
  rw [hns, hni, hnt] at DH
  rw [hni] at l2
  rw [hnt] at l3
  clear hni hnt
  have HH : Hid ([hd R (s : Int)] = HS0) := hHS0
  clear hcn DHT hHS0
  clear ha hbb hl
  generalize hd R (p : Int) = hA at *
  obtain ⟨P, U⟩ := hA
  generalize hd R (r : Int) = hB at *
  obtain ⟨P2, U2⟩ := hB
  dsimp only at u0 u1 v0 v1 D ⊢
  obtain ⟨E, hE⟩ : ∃ E, insE R.s P U P2 U2 HS0 = E := ⟨_, rfl⟩
  obtain ⟨T, hT⟩ : ∃ T, insS R.s P P2 HS0 = T := ⟨_, rfl⟩
  rw [hE, hT] at D
  rw [hE, hT]
  clear hE hT
  rw [hns] at D l0
  clear hns I hm
  rw [h0] at D
  clear h0
  generalize hd R (s : Int) = hC at *
  obtain ⟨P3, U3⟩ := hC
  dsimp only at t0 t1
  go_enter Tryz.func67, Tryz.ntmps67
  go_upto_region 3 with fail
  obtain ⟨V1, hV1⟩ : ∃ V1, V.alloc (.cells #[.int .i64 xk, .int .i64 p, .int .i64 r, .int .i64 s, .int .i64 xn] 41) = V1 := ⟨_, rfl⟩
  have BV : Hid (Below V.heap.size V V1) := by rw [← hV1]; exact one_belowS _ _
  have y0 : V1.cell? ⟨V.heap.size, 0, none⟩ = some (.int .i64 xk) := by rw [← hV1]; exact alloc_cell _ _ _ 0 rfl
  have y1 : V1.cell? ⟨V.heap.size, 1, none⟩ = some (.int .i64 p) := by rw [← hV1]; exact alloc_cell _ _ _ 1 rfl
  have y2 : V1.cell? ⟨V.heap.size, 2, none⟩ = some (.int .i64 r) := by rw [← hV1]; exact alloc_cell _ _ _ 2 rfl
  have y3 : V1.cell? ⟨V.heap.size, 3, none⟩ = some (.int .i64 s) := by rw [← hV1]; exact alloc_cell _ _ _ 3 rfl
  have y4 : V1.cell? ⟨V.heap.size, 4, none⟩ = some (.int .i64 xn) := by rw [← hV1]; exact alloc_cell _ _ _ 4 rfl
  have sV : V.heap.size < V1.heap.size := World.block_lt_of_cell? _ _ y0
  rw [hV1]
  clear hV1
  replace u0 := keepC u0 BV.out
  replace u1 := keepC u1 BV.out
  replace l0 := keepC l0 BV.out
  replace l1 := keepC l1 BV.out
  replace l2 := keepC l2 BV.out
  replace l3 := keepC l3 BV.out
  have n0 : ¬ V1.heap.size = d := by omega
  have o0 : ¬ d = V1.heap.size := by omega
  have n1 : ¬ V1.heap.size = h := by omega
  have o1 : ¬ h = V1.heap.size := by omega
  have n2 : ¬ V1.heap.size = V.heap.size := by omega
  have o2 : ¬ V.heap.size = V1.heap.size := by omega
  have hvd : d < V1.heap.size := by omega
  have hvh : h < V1.heap.size := by omega
  clear fz lt
  replace v0 := keepC v0 BV.out
  replace v1 := keepC v1 BV.out
  replace t0 := keepC t0 BV.out
  replace t1 := keepC t1 BV.out
  go_region_held3 (fun w'' => w''.cell? ⟨d, 0, none⟩ = some (.slice (some ⟨g, 0, none⟩) ns c0) ∧ w''.cell? ⟨d, 1, none⟩ = some (.slice (some ⟨h, 0, none⟩) 16 c1) ∧ w''.cell? ⟨d, 2, none⟩ = some (.slice a2 ni c2) ∧ w''.cell? ⟨d, 3, none⟩ = some (.slice a3 nt c3) ∧ w''.cell? ⟨V.heap.size, 3, none⟩ = some (.int .i64 s)) (go_keep) (first | (go_at_call 22; refine Calls.mono (DH.out V1.drew) ?_; rintro e w2 ⟨rfl, hb2⟩; have B2 : Hid (Below V1.heap.size V1 w2) := (Below.refl _ _).drew.trans hb2; have gl0 := keepC l0 B2.out; have gl1 := keepC l1 B2.out; have gl2 := keepC l2 B2.out; have gl3 := keepC l3 B2.out; have gy3 := keepC y3 B2.out; clear hb2))
  clear gl0 gl1 gl2 gl3 gy3
  replace l0 := keepC l0 B2.out
  replace l1 := keepC l1 B2.out
  replace u0 := keepC u0 B2.out
  replace u1 := keepC u1 B2.out
  replace v0 := keepC v0 B2.out
  replace v1 := keepC v1 B2.out
  replace t0 := keepC t0 B2.out
  replace t1 := keepC t1 B2.out
  replace y1 := keepC y1 B2.out
  replace y2 := keepC y2 B2.out
  replace y3 := keepC y3 B2.out
  have BV2 : Hid (Below V.heap.size V w2) := BV.out.trans (B2.out.mono BV.out.size)
  have s2 := B2.out.size
  have hvd2 : d < w2.heap.size := by omega
  have hvh2 : h < w2.heap.size := by omega
  have hvy2 : V.heap.size < w2.heap.size := by omega
  have e0 : ¬ w2.heap.size = d := by omega
  have e1 : ¬ w2.heap.size = h := by omega
  have e2 : ¬ w2.heap.size = V.heap.size := by omega
  have e3 : ¬ d = w2.heap.size := by omega
  have e4 : ¬ h = w2.heap.size := by omega
  have e5 : ¬ V.heap.size = w2.heap.size := by omega
  clear n0 n1 n2 o0 o1 o2 hvd hvh B2 BV l2 l3 y0 y4 DH sV
  go_wp2_with fail
  go_region_held3 (fun w'' => w''.cell? ⟨d, 1, none⟩ = some (.slice (some ⟨h, 0, none⟩) 16 c1) ∧ w''.cell? ⟨h, s * 2, none⟩ = some (.int .i64 P3) ∧ w''.cell? ⟨h, s * 2 + 1, none⟩ = some (.int .i64 U3) ∧ w''.cell? ⟨V.heap.size, 3, none⟩ = some (.int .i64 s)) (go_keep) (fail)
  go_upto_region 6 with fail
  obtain ⟨V4, hV4⟩ : ∃ V4, (w2.alloc (.cells #[.int .i64 P3, .int .i64 U3] 39)).drew = V4 := ⟨_, rfl⟩
  have B4 : Hid (Below w2.heap.size w2 V4) := by rw [← hV4]; exact (one_belowS _ _).drew
  have BV4 : Hid (Below V.heap.size V V4) := BV2.out.trans (B4.out.mono BV2.out.size)
  have X4 : Hid (V4.heap[w2.heap.size]? = some (.cells #[.int .i64 P3, .int .i64 U3] 39 (0, 0))) := by rw [← hV4]; exact heap_alloc_new w2 _
  rw [hV4]
  clear hV4
  obtain ⟨j0, j1, jl⟩ := box2_facts X4.out
  have H4 : Hid (HandsAt V4 (some ⟨w2.heap.size, 0, none⟩) HS0) := by rw [← HH.out]; exact hands_oneD j0 j1
  have s4 := B4.out.size
  replace l0 := keepC l0 B4.out
  replace l1 := keepC l1 B4.out
  replace u0 := keepC u0 B4.out
  replace u1 := keepC u1 B4.out
  replace v0 := keepC v0 B4.out
  replace v1 := keepC v1 B4.out
  replace y1 := keepC y1 B4.out
  replace y2 := keepC y2 B4.out
  clear t0 t1 y3 j0 j1 e0 e1 e2 e3 e4 e5
  have hvd : d < V4.heap.size := by omega
  have hvh : h < V4.heap.size := by omega
  have hvy : V.heap.size < V4.heap.size := by omega
  have n0 : ¬ V4.heap.size = d := by omega
  have n1 : ¬ V4.heap.size = h := by omega
  have n2 : ¬ V4.heap.size = V.heap.size := by omega
  have o0 : ¬ d = V4.heap.size := by omega
  have o1 : ¬ h = V4.heap.size := by omega
  have o2 : ¬ V.heap.size = V4.heap.size := by omega
  go_cut [7, 8] (fun s7 s8 wx => ∃ (b : Nat) (a' : Option Addr) (c' : Nat), s7 = .pointer (some ⟨b, 0, none⟩) ∧ s8 = .int .i64 E ∧ Hid (Below V4.heap.size V4 wx) ∧ Hid (St (fun b => b < V4.heap.size) (fun V => NdsAt V a' (rS E T)) wx) ∧ wx.cell? ⟨b, 0, none⟩ = some (.slice a' (rS E T).length c') ∧ V4.heap.size ≤ b)
  case first =>
    go_region_held3 (fun w'' => w''.cell? ⟨d, 0, none⟩ = some (.slice (some ⟨g, 0, none⟩) ns c0) ∧ w''.cell? ⟨d, 1, none⟩ = some (.slice (some ⟨h, 0, none⟩) 16 c1) ∧ w''.cell? ⟨h, p * 2, none⟩ = some (.int .i64 P) ∧ w''.cell? ⟨h, p * 2 + 1, none⟩ = some (.int .i64 U) ∧ w''.cell? ⟨h, r * 2, none⟩ = some (.int .i64 P2) ∧ w''.cell? ⟨h, r * 2 + 1, none⟩ = some (.int .i64 U2) ∧ w''.cell? ⟨V.heap.size, 1, none⟩ = some (.int .i64 p) ∧ w''.cell? ⟨V.heap.size, 2, none⟩ = some (.int .i64 r)) (go_keep) (first | (go_at_call 112; refine Calls.mono (D.out (some ⟨w2.heap.size, 0, none⟩) 1 V4.drew BV4.out.drew (H4.out.below (Below.refl _ _).drew)) ?_; rintro e w3 ⟨a', c', rfl, hb3, hn3⟩; have B3 : Hid (Below V4.heap.size V4 w3) := (Below.refl _ _).drew.trans hb3; have N3 : Hid (St (fun b => b < V4.heap.size) (fun V => NdsAt V a' (rS E T)) w3) := hn3; have gl0 := keepC l0 B3.out; have gl1 := keepC l1 B3.out; have gu0 := keepC u0 B3.out; have gu1 := keepC u1 B3.out; have gv0 := keepC v0 B3.out; have gv1 := keepC v1 B3.out; have gy1 := keepC y1 B3.out; have gy2 := keepC y2 B3.out; clear hb3 hn3) | (go_at_call 112; refine Calls.mono (D.out (some ⟨w2.heap.size, 0, none⟩) 1 (V4.alloc (.cells #[.slice none 0 0] 24)).drew (BV4.out.trans ((one_belowS V4 _).mono BV4.out.size)).drew (H4.out.below (one_belowS V4 _).drew)) ?_; rintro e w3 ⟨a', c', rfl, hb3, hn3⟩; have B3 : Hid (Below V4.heap.size V4 w3) := (one_belowS V4 _).drew.trans (hb3.mono (by simp)); have N3 : Hid (St (fun b => b < V4.heap.size + 1) (fun V => NdsAt V a' (rS E T)) w3) := (by have h := hn3; simp only [World.size_alloc, World.size_drew] at h; exact h); have gl0 := keepC l0 B3.out; have gl1 := keepC l1 B3.out; have gu0 := keepC u0 B3.out; have gu1 := keepC u1 B3.out; have gv0 := keepC v0 B3.out; have gv1 := keepC v1 B3.out; have gy1 := keepC y1 B3.out; have gy2 := keepC y2 B3.out; have X3 : Hid (w3.heap[V4.heap.size]? = some (.cells #[.slice none 0 0] 24 (0, 0))) := keepB (W := (V4.alloc (.cells #[.slice none 0 0] 24)).drew) (heap_alloc_new V4 _) hb3; have x3 := box_cell X3.out; have xf := box_frozen (o := 0) X3.out; have xl : V4.heap.size < w3.heap.size := box_lt X3.out; clear hb3 hn3))
    · go_wp2_with fail
      go_meet
      case rel => exact ⟨_, _, _, rfl, rfl, relA _ _ (Below.refl V4.heap.size V4) B3.out N3.out⟩
    · go_wp2_with fail
      go_meet
      case rel => exact ⟨_, _, _, rfl, rfl, relB _ (Below.refl V4.heap.size V4) B3.out N3.out X3.out⟩
  case rest =>
    obtain ⟨b, a', c', rfl, rfl, HB, HN, hcell, hbl⟩ := hcut
    have I2 : Hid _ := II.out.below (BV4.out.trans (HB.out.mono BV4.out.size))
    have HS : Hid _ := I2.out.store c' HN.out (by have h1 := II.out.base; have h2 := BV4.out.size; omega)
    obtain ⟨m0, m1, m2, m3, mf, ml⟩ := box4_facts I2.out.box
    have bl : b < wc.heap.size := World.block_lt_of_cell? _ _ hcell
    have nbd : ¬ b = d := by omega
    clear II D u0 u1 v0 v1 l0 l1 y1 y2
    go_wp2
    refine bodyPost_ret (v := .tuple #[.int .i64 0, .int .i64 E]) (by simp [results, Tryz.results67, go_sem]) rfl ⟨0, rfl, HS.out.1, fun hE => ?_⟩
    rw [ans_0 hE]
    have h2 := HS.out.2
    rw [hE, rS_ok] at h2
    rw [hE, rS_ok]
    exact ⟨rfl, _, h2⟩
end Go.Proofs.YtgjfmepbphfjoaaGreat
