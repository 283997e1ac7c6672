/-
  Deeds that make a node: makeNode, host.
-/
import Derived.Test.YtgjfmepbphfjoaaGreatUDwe
namespace Go.Proofs.YtgjfmepbphfjoaaGreat
open Go.RowKit Go.ChangeShapes Go.WideShapes
set_option linter.unusedVariables false

/-- A store, a hand and an error are answered; the store lies in new memory. -/
abbrev StoHandX (f : Nat) (S T : List Nd) (more : Array Value) (h : Int × Int) (E : Int) : Prop := ∀ (a : Option Addr) (c : Nat) W, NdsAt W a S →
  Calls Tryz.prog f (#[.agg #[.slice a S.length c]] ++ more) W fun e w' => ∃ a' c', e = .returned (.tuple #[.agg #[.slice a' T.length c'], .agg #[.int .i64 h.1, .int .i64 h.2], .int .i64 E]) ∧ Below W.heap.size W w' ∧ St (fun b => b < W.heap.size) (fun V => NdsAt V a' T) w'
set_option maxRecDepth 100000 in
theorem make_st (S : List Nd) (t : Int) (wf : WF S) : StoHandX 101 S (rS (makeE S t) (mkS S t)) #[.int .i64 t] (rH (makeE S t) (mkH S)) (makeE S t) := fun a c W hW => by
  have hN : S.length ≤ 9223372036854775807 := by have := wf.small; omega
  by_cases hE : makeE S t = 0
  · obtain ⟨_, ht, hf, hfr, hall⟩ := make_at hE
    rw [hE, rS_ok]
    refine (make_own a c S t W wf.small (kids_1000 wf) hW ((wf_iff S).2 wf) ht.1 ht.2 (ffree S) hf hfr (wf.uses hf).1 hall).mono (fun e w' ⟨g, e1, hb, hg, ho⟩ => ⟨some ⟨g, 0, none⟩, S.length, ?_, hb, fun V hV => (ho.up (fun b h1 h2 => hV.block b h2 (fun h3 => by omega))).nds⟩)
    rw [e1]
    unfold mkS
    rw [List.length_set]
    rfl
  · rw [rS_no hE, rH_no hE]
    exact (make_err a c S t _ W hN wf.big hW rfl hE).mono (fun e w' ⟨e1, hb⟩ => ⟨none, 0, e1, hb, fun V _ => nds_nilD V⟩)
set_option maxRecDepth 100000 in
theorem host_st (S : List Nd) (h : Int × Int) (cl : Bool) (wf : WF S) : StoHandX 113 S (rS (hosE S h.1 h.2) (hosS S h.1 cl)) #[hdV h, .bool cl] (rH (hosE S h.1 h.2) (mkH S)) (hosE S h.1 h.2) := fun a c W hW => by
  obtain ⟨P, U⟩ := h
  dsimp only [hdV]
  have hN : S.length ≤ 9223372036854775807 := by have := wf.small; omega
  unfold hosE
  by_cases hE : findE S P U = 0
  · rw [if_pos hE]
    obtain ⟨_, k, e, hk, hu, hkn⟩ := held_at hE
    subst e
    by_cases hH : hostB S (k : Int) = true
    · rw [if_pos hH, rS_no (by decide), rH_no (by decide)]
      exact (attach_err2 a c S k U cl W wf hW hk hE hH).mono (fun e w' ⟨e1, hb⟩ => ⟨none, 0, e1, hb, fun V _ => nds_nilD V⟩)
    · rw [if_neg hH]
      have hH2 : hostB S (k : Int) = false := by simpa using hH
      by_cases hM : makeE S 0 = 0
      · obtain ⟨_, ht, hf, hfr, hall⟩ := make_at hM
        rw [hM, rS_ok]
        unfold hosS
        rw [Int.toNat_natCast]
        refine (attach_ok a c S k (ffree S) U cl W wf hW hk hE hH2 hf hfr hall).mono (fun e w' ⟨g, e1, hb, hg, ho⟩ => ⟨some ⟨g, 0, none⟩, S.length, ?_, hb, fun V hV => (ho.up (fun b h1 h2 => hV.block b h2 (fun h3 => by omega))).nds⟩)
        rw [e1, List.length_set]
        rfl
      · rw [rS_no hM, rH_no hM]
        exact (attach_err3 a c S k U _ cl W wf hW hk hE hH2 rfl hM).mono (fun e w' ⟨e1, hb⟩ => ⟨none, 0, e1, hb, fun V _ => nds_nilD V⟩)
  · rw [if_neg hE, rS_no hE, rH_no hE]
    exact (attach_err1 a c S P U _ cl W hN wf.big hW rfl hE).mono (fun e w' ⟨e1, hb⟩ => ⟨none, 0, e1, hb, fun V _ => nds_nilD V⟩)
theorem box2_frozen {w : World} {b t o : Nat} {v u : Value} (h : w.heap[b]? = some (.cells #[v, u] t (0, 0))) : w.frozen? ⟨b, o, none⟩ = false := by
  simp [World.frozen?, h]

theorem two_first (V : World) (o1 o2 : Obj) : ((V.alloc o1).alloc o2).heap[V.heap.size]? = some o1 := ((one_belowS (V.alloc o1) o2).block _ (by simp)).trans (heap_alloc_new V o1)
theorem two_second (V : World) (o1 o2 : Obj) : ((V.alloc o1).alloc o2).heap[V.heap.size + 1]? = some o2 := by
  have h := heap_alloc_new (V.alloc o1) o2
  rw [World.size_alloc] at h
  exact h

set_option maxRecDepth 100000 in
set_option maxHeartbeats 4000000 in
theorem makeNode_any (w : World) (R : Rl) (x : Ac) (hl : R.hs.length = 16) (ha : isH x.a) (T : List Nd) (hh : Int × Int) (E : Int) (hF : StoHandX 101 R.s T #[.int .i64 x.n] hh E) (q : Rs) (hq : q.e = E) (hq0 : E = 0 → q = ⟨0, ⟨T, R.hs.set x.a.toNat hh, R.i, R.t⟩, 0⟩) :
    Deed 55 #[] w R x q := fun d h g A V I => by
  rw [hq]
  obtain ⟨a0, a1, a2, a3, c0, c1, c2, c3⟩ := A
  obtain rfl : a0 = some ⟨g, 0, none⟩ := I.a0
  obtain rfl : a1 = some ⟨h, 0, none⟩ := I.a1
  obtain ⟨xk, xa, xb, xc, xn⟩ := x
  obtain ⟨p, hp, hp16⟩ := natH ha
  dsimp only at hp
  subst hp
  obtain ⟨u0, u1⟩ := I.hand (k := p) (by omega)
  have II : Hid (WI w R d h g _ V) := I
  have D : Hid (∀ W, Below V.heap.size V W → Calls Tryz.prog 101 #[.agg #[.slice (some ⟨g, 0, none⟩) R.s.length c0], .int .i64 xn] W fun e w' => ∃ a' c', e = .returned (.tuple #[.agg #[.slice a' T.length c'], .agg #[.int .i64 hh.1, .int .i64 hh.2], .int .i64 E]) ∧ Below W.heap.size W w' ∧ St (fun b => b < W.heap.size) (fun V => NdsAt V a' T) w') := fun W hW => hF (some ⟨g, 0, none⟩) c0 W (I.nds.below hW)
  clear hF
  obtain ⟨l0, l1, l2, l3, fz, lt⟩ := box4_facts I.box
  dsimp only at l0 l1 l2 l3
  rw [hl] at l1
  have hdv : d < V.heap.size := lt
  have hhv : h < V.heap.size := World.block_lt_of_cell? _ _ u0
  have hp2 : (p : Int) < 16 := by omega
  show Calls Tryz.prog _ #[.pointer (some ⟨d, 0, none⟩), .agg #[.int .i64 xk, .int .i64 p, .int .i64 xb, .int .i64 xc, .int .i64 xn]] V _
  obtain ⟨ns, hns⟩ : ∃ n, R.s.length = n := ⟨_, rfl⟩
  have HNS : Hid (R.s.length = ns) := hns
  have HL : Hid (R.hs.length = 16) := hl
  have HQ : Hid _ := hq0
  rw [hns] at D l0
  clear hns I hl ha hq hq0
  obtain ⟨X0, Y0⟩ := hh
  dsimp only at D
  go_enter Tryz.func55, Tryz.ntmps55
  go_upto_region 1 with fail
  obtain ⟨V1, hV1⟩ : ∃ V1, V.alloc (.cells #[.int .i64 xk, .int .i64 p, .int .i64 xb, .int .i64 xc, .int .i64 xn] 41) = V1 := ⟨_, rfl⟩
  have BV : Hid (Below V.heap.size V V1) := by rw [← hV1]; exact one_belowS _ _
  have y0 : V1.cell? ⟨V.heap.size, 0, none⟩ = some (.int .i64 xk) := by rw [← hV1]; exact alloc_cell _ _ _ 0 rfl
  have y1 : V1.cell? ⟨V.heap.size, 1, none⟩ = some (.int .i64 p) := by rw [← hV1]; exact alloc_cell _ _ _ 1 rfl
  have y2 : V1.cell? ⟨V.heap.size, 2, none⟩ = some (.int .i64 xb) := by rw [← hV1]; exact alloc_cell _ _ _ 2 rfl
  have y3 : V1.cell? ⟨V.heap.size, 3, none⟩ = some (.int .i64 xc) := by rw [← hV1]; exact alloc_cell _ _ _ 3 rfl
  have y4 : V1.cell? ⟨V.heap.size, 4, none⟩ = some (.int .i64 xn) := by rw [← hV1]; exact alloc_cell _ _ _ 4 rfl
  have sV : V.heap.size < V1.heap.size := World.block_lt_of_cell? _ _ y0
  rw [hV1]
  clear hV1
  replace u0 := keepC u0 BV.out
  replace u1 := keepC u1 BV.out
  replace l0 := keepC l0 BV.out
  replace l1 := keepC l1 BV.out
  replace l2 := keepC l2 BV.out
  replace l3 := keepC l3 BV.out
  have n0 : ¬ V1.heap.size = d := by omega
  have o0 : ¬ d = V1.heap.size := by omega
  have n1 : ¬ V1.heap.size = h := by omega
  have o1 : ¬ h = V1.heap.size := by omega
  have n2 : ¬ V1.heap.size = V.heap.size := by omega
  have o2 : ¬ V.heap.size = V1.heap.size := by omega
  have hvd : d < V1.heap.size := by omega
  have hvh : h < V1.heap.size := by omega
  clear fz lt
  have nn0 : ¬ V1.heap.size + 1 = d := by omega
  have oo0 : ¬ d = V1.heap.size + 1 := by omega
  have nn1 : ¬ V1.heap.size + 1 = h := by omega
  have oo1 : ¬ h = V1.heap.size + 1 := by omega
  have nn2 : ¬ V1.heap.size + 1 = V.heap.size := by omega
  have oo2 : ¬ V.heap.size = V1.heap.size + 1 := by omega
  go_cut [6, 7, 8] (fun s6 s7 s8 wx => ∃ (b6 b7 : Nat) (a' : Option Addr) (c' : Nat), s6 = .pointer (some ⟨b6, 0, none⟩) ∧ s7 = .pointer (some ⟨b7, 0, none⟩) ∧ s8 = .int .i64 E ∧ Hid (Below V1.heap.size V1 wx) ∧ wx.cell? ⟨b6, 0, none⟩ = some (.slice a' T.length c') ∧ wx.cell? ⟨b7, 0, none⟩ = some (.int .i64 X0) ∧ wx.cell? ⟨b7, 1, none⟩ = some (.int .i64 Y0) ∧ V1.heap.size ≤ b6 ∧ V1.heap.size ≤ b7 ∧ Hid (St (fun b => b < V1.heap.size) (fun V => NdsAt V a' T) wx))
  case first =>
    go_region_held3 (fun w'' => w''.cell? ⟨d, 0, none⟩ = some (.slice (some ⟨g, 0, none⟩) ns c0) ∧ w''.cell? ⟨V.heap.size, 4, none⟩ = some (.int .i64 xn)) (go_keep) (first | (go_at_call 101; refine Calls.mono (D.out V1.drew (BV.out.trans ((Below.refl V1.heap.size V1).mono BV.out.size)).drew) ?_; rintro e w3 ⟨a', c', rfl, hb3, hn3⟩; have B3 : Hid (Below V1.heap.size V1 w3) := (Below.refl V1.heap.size V1).drew.trans (hb3.mono (by simp)); have N3 : Hid (St (fun b => b < V1.heap.size) (fun V => NdsAt V a' T) w3) := (by have h := hn3; first | exact h | (simp only [World.drew, World.size_alloc] at h; exact h)); have gl0 := keepC l0 B3.out; have gy4 := keepC y4 B3.out; clear hb3 hn3) | (go_at_call 101; refine Calls.mono (D.out (V1.alloc (.cells #[.slice none 0 0] 24)).drew (BV.out.trans ((one_belowS V1 _).mono BV.out.size)).drew) ?_; rintro e w3 ⟨a', c', rfl, hb3, hn3⟩; have B3 : Hid (Below V1.heap.size V1 w3) := (one_belowS V1 _).drew.trans (hb3.mono (by simp)); have N3 : Hid (St (fun b => b < V1.heap.size + 1) (fun V => NdsAt V a' T) w3) := (by have h := hn3; first | exact h | (simp only [World.drew, World.size_alloc] at h; exact h)); have gl0 := keepC l0 B3.out; have gy4 := keepC y4 B3.out; have XA : Hid (w3.heap[V1.heap.size]? = some (.cells #[.slice none 0 0] 24 (0, 0))) := (hb3.block _ (by first | (simp; done) | (simp; omega))).trans (heap_alloc_new V1 _); have ltA : V1.heap.size < w3.heap.size := box_lt XA.out; have neA : ¬ V1.heap.size = w3.heap.size := Nat.ne_of_lt ltA; have nfA : ¬ w3.heap.size = V1.heap.size := Ne.symm neA; have xa := box_cell XA.out; have xaf := fun o => box_frozen (o := o) XA.out; clear hb3 hn3) | (go_at_call 101; refine Calls.mono (D.out (V1.alloc (.cells #[.int .i64 0, .int .i64 0] 39)).drew (BV.out.trans ((one_belowS V1 _).mono BV.out.size)).drew) ?_; rintro e w3 ⟨a', c', rfl, hb3, hn3⟩; have B3 : Hid (Below V1.heap.size V1 w3) := (one_belowS V1 _).drew.trans (hb3.mono (by simp)); have N3 : Hid (St (fun b => b < V1.heap.size + 1) (fun V => NdsAt V a' T) w3) := (by have h := hn3; first | exact h | (simp only [World.drew, World.size_alloc] at h; exact h)); have gl0 := keepC l0 B3.out; have gy4 := keepC y4 B3.out; have XB : Hid (w3.heap[V1.heap.size]? = some (.cells #[.int .i64 0, .int .i64 0] 39 (0, 0))) := (hb3.block _ (by first | (simp; done) | (simp; omega))).trans (heap_alloc_new V1 _); have ltB : V1.heap.size < w3.heap.size := box_lt XB.out; have neB : ¬ V1.heap.size = w3.heap.size := Nat.ne_of_lt ltB; have nfB : ¬ w3.heap.size = V1.heap.size := Ne.symm neB; obtain ⟨xb0, xb1, xbl⟩ := box2_facts XB.out; have xbf := fun o => box2_frozen (o := o) XB.out; clear hb3 hn3) | (go_at_call 101; refine Calls.mono (D.out ((V1.alloc (.cells #[.slice none 0 0] 24)).alloc (.cells #[.int .i64 0, .int .i64 0] 39)).drew (BV.out.trans ((two_belowS V1 _ _).mono BV.out.size)).drew) ?_; rintro e w3 ⟨a', c', rfl, hb3, hn3⟩; have B3 : Hid (Below V1.heap.size V1 w3) := (two_belowS V1 _ _).drew.trans (hb3.mono (by simp; omega)); have N3 : Hid (St (fun b => b < V1.heap.size + 1 + 1) (fun V => NdsAt V a' T) w3) := (by have h := hn3; first | exact h | (simp only [World.drew, World.size_alloc] at h; exact h)); have gl0 := keepC l0 B3.out; have gy4 := keepC y4 B3.out; have XA : Hid (w3.heap[V1.heap.size]? = some (.cells #[.slice none 0 0] 24 (0, 0))) := (hb3.block _ (by first | (simp; done) | (simp; omega))).trans (two_first V1 _ _); have ltA : V1.heap.size < w3.heap.size := box_lt XA.out; have neA : ¬ V1.heap.size = w3.heap.size := Nat.ne_of_lt ltA; have nfA : ¬ w3.heap.size = V1.heap.size := Ne.symm neA; have xa := box_cell XA.out; have xaf := fun o => box_frozen (o := o) XA.out; have XB : Hid (w3.heap[V1.heap.size + 1]? = some (.cells #[.int .i64 0, .int .i64 0] 39 (0, 0))) := (hb3.block _ (by first | (simp; done) | (simp; omega))).trans (two_second V1 _ _); have ltB : V1.heap.size + 1 < w3.heap.size := box_lt XB.out; have neB : ¬ V1.heap.size + 1 = w3.heap.size := Nat.ne_of_lt ltB; have nfB : ¬ w3.heap.size = V1.heap.size + 1 := Ne.symm neB; obtain ⟨xb0, xb1, xbl⟩ := box2_facts XB.out; have xbf := fun o => box2_frozen (o := o) XB.out; clear hb3 hn3) | (go_at_call 101; refine Calls.mono (D.out ((V1.alloc (.cells #[.int .i64 0, .int .i64 0] 39)).alloc (.cells #[.slice none 0 0] 24)).drew (BV.out.trans ((two_belowS V1 _ _).mono BV.out.size)).drew) ?_; rintro e w3 ⟨a', c', rfl, hb3, hn3⟩; have B3 : Hid (Below V1.heap.size V1 w3) := (two_belowS V1 _ _).drew.trans (hb3.mono (by simp; omega)); have N3 : Hid (St (fun b => b < V1.heap.size + 1 + 1) (fun V => NdsAt V a' T) w3) := (by have h := hn3; first | exact h | (simp only [World.drew, World.size_alloc] at h; exact h)); have gl0 := keepC l0 B3.out; have gy4 := keepC y4 B3.out; have XB : Hid (w3.heap[V1.heap.size]? = some (.cells #[.int .i64 0, .int .i64 0] 39 (0, 0))) := (hb3.block _ (by first | (simp; done) | (simp; omega))).trans (two_first V1 _ _); have ltB : V1.heap.size < w3.heap.size := box_lt XB.out; have neB : ¬ V1.heap.size = w3.heap.size := Nat.ne_of_lt ltB; have nfB : ¬ w3.heap.size = V1.heap.size := Ne.symm neB; obtain ⟨xb0, xb1, xbl⟩ := box2_facts XB.out; have xbf := fun o => box2_frozen (o := o) XB.out; have XA : Hid (w3.heap[V1.heap.size + 1]? = some (.cells #[.slice none 0 0] 24 (0, 0))) := (hb3.block _ (by first | (simp; done) | (simp; omega))).trans (two_second V1 _ _); have ltA : V1.heap.size + 1 < w3.heap.size := box_lt XA.out; have neA : ¬ V1.heap.size + 1 = w3.heap.size := Nat.ne_of_lt ltA; have nfA : ¬ w3.heap.size = V1.heap.size + 1 := Ne.symm neA; have xa := box_cell XA.out; have xaf := fun o => box_frozen (o := o) XA.out; clear hb3 hn3))
    all_goals
      go_wp2_with fail
      go_meet
      case rel =>
        have zz := B3.out.size
        refine ⟨_, _, a', c', rfl, rfl, rfl, ?_, by go_simp, by go_simp, by go_simp, by omega, by omega, ?_⟩
        · show Below _ _ _
          repeat (first | exact B3.out | refine Below.setCell ?_ (by simp) _ | refine Below.alloc ?_ (by first | omega | (simp; omega)) _)
        · refine (St.off N3.out ?_).less (fun b hb => by have h : b < V1.heap.size := hb; show b < _; omega)
          repeat (first | exact OffX.refl _ _ | refine OffX.trans ?_ (OffX.set _ _ (by show _ < _; omega)) | refine OffX.trans ?_ (OffX.of_below (one_belowS _ _)))
  case rest =>
    obtain ⟨b6, b7, a', c', rfl, rfl, rfl, HB, h6, h70, h71, hl6, hl7, HN⟩ := hcut
    have I2 : Hid _ := II.out.below (BV.out.trans (HB.out.mono BV.out.size))
    obtain ⟨m0, m1, m2, m3, mf, ml⟩ := box4_facts I2.out.box
    dsimp only at m0 m1
    rw [HL.out] at m1
    obtain ⟨r0, r1⟩ := I2.out.hand (k := p) (by rw [HL.out]; omega)
    have rf := I2.out.row.frozen
    have yA := keepC y1 HB.out
    have e1 : ¬ h = d := II.out.dh
    have e2 : ¬ d = h := Ne.symm II.out.dh
    have e3 : ¬ d = b6 := by omega
    have e4 : ¬ d = b7 := by omega
    have e5 : ¬ h = b6 := by omega
    have e6 : ¬ h = b7 := by omega
    have e7 : ¬ d = V.heap.size := by omega
    have e8 : ¬ h = V.heap.size := by omega
    have HS : Hid _ := I2.out.storeHand c' HN.out (by have := II.out.base; omega) (k := p) (by rw [HL.out]; omega) (X0, Y0) rfl
    clear II D u0 u1 l0 l1 l2 l3 y0 y1 y2 y3 y4 m2 m3
    go_wp2_with fail
    go_region
    go_wp2
    refine bodyPost_ret (v := .tuple #[.int .i64 0, .int .i64 E]) (by simp [results, Tryz.results55, go_sem]) rfl ⟨0, rfl, HS.out.1.drew, fun hE => ?_⟩
    have h2 := HQ.out hE
    rw [Int.toNat_natCast] at h2
    rw [h2]
    exact ⟨rfl, _, HS.out.2.1, HS.out.2.2.below (Below.refl _ _).drew⟩
set_option maxRecDepth 100000 in
set_option maxHeartbeats 4000000 in
theorem host_any (w : World) (R : Rl) (x : Ac) (hl : R.hs.length = 16) (ha : isH x.a) (hbb : isH x.b) (T : List Nd) (hh : Int × Int) (E : Int) (hF : StoHandX 113 R.s T #[hdV (hd R x.a), .bool (decide (x.n = 1))] hh E) (q : Rs) (hq : q.e = E) (hq0 : E = 0 → q = ⟨0, ⟨T, R.hs.set x.b.toNat hh, R.i, R.t⟩, 0⟩) :
    Deed 68 #[] w R x q := fun d h g A V I => by
  rw [hq]
  obtain ⟨a0, a1, a2, a3, c0, c1, c2, c3⟩ := A
  obtain rfl : a0 = some ⟨g, 0, none⟩ := I.a0
  obtain rfl : a1 = some ⟨h, 0, none⟩ := I.a1
  obtain ⟨xk, xa, xb, xc, xn⟩ := x
  obtain ⟨p, hp, hp16⟩ := natH ha
  dsimp only at hp
  subst hp
  obtain ⟨u0, u1⟩ := I.hand (k := p) (by omega)
  obtain ⟨r, hr, hr16⟩ := natH hbb
  dsimp only at hr
  subst hr
  obtain ⟨v0, v1⟩ := I.hand (k := r) (by omega)
  have II : Hid (WI w R d h g _ V) := I
  have D : Hid (∀ W, Below V.heap.size V W → Calls Tryz.prog 113 #[.agg #[.slice (some ⟨g, 0, none⟩) R.s.length c0], .agg #[.int .i64 (hd R (p : Int)).1, .int .i64 (hd R (p : Int)).2], .bool (decide (xn = 1))] W fun e w' => ∃ a' c', e = .returned (.tuple #[.agg #[.slice a' T.length c'], .agg #[.int .i64 hh.1, .int .i64 hh.2], .int .i64 E]) ∧ Below W.heap.size W w' ∧ St (fun b => b < W.heap.size) (fun V => NdsAt V a' T) w') := fun W hW => hF (some ⟨g, 0, none⟩) c0 W (I.nds.below hW)
  clear hF
  obtain ⟨l0, l1, l2, l3, fz, lt⟩ := box4_facts I.box
  dsimp only at l0 l1 l2 l3
  rw [hl] at l1
  have hdv : d < V.heap.size := lt
  have hhv : h < V.heap.size := World.block_lt_of_cell? _ _ u0
  have hp2 : (p : Int) < 16 := by omega
  have hr2 : (r : Int) < 16 := by omega
  show Calls Tryz.prog _ #[.pointer (some ⟨d, 0, none⟩), .agg #[.int .i64 xk, .int .i64 p, .int .i64 r, .int .i64 xc, .int .i64 xn]] V _
  obtain ⟨ns, hns⟩ : ∃ n, R.s.length = n := ⟨_, rfl⟩
  have HNS : Hid (R.s.length = ns) := hns
  have HL : Hid (R.hs.length = 16) := hl
  have HQ : Hid _ := hq0
  rw [hns] at D l0
  clear hns I hl ha hbb hq hq0 v0 v1
  obtain ⟨X0, Y0⟩ := hh
  dsimp only at D
  generalize hd R (p : Int) = hA at *
  obtain ⟨P, U⟩ := hA
  dsimp only at u0 u1 D
  have XN : Hid (∀ W, Below V.heap.size V W → _) := D.out
  obtain ⟨B1, hB1⟩ : ∃ B1, decide (xn = 1) = B1 := ⟨_, rfl⟩
  have hB2 : (xn == 1) = B1 := by rw [← hB1]; rfl
  rw [hB1] at D
  clear XN
  go_enter Tryz.func68, Tryz.ntmps68
  go_upto_region 1 with fail
  obtain ⟨V1, hV1⟩ : ∃ V1, V.alloc (.cells #[.int .i64 xk, .int .i64 p, .int .i64 r, .int .i64 xc, .int .i64 xn] 41) = V1 := ⟨_, rfl⟩
  have BV : Hid (Below V.heap.size V V1) := by rw [← hV1]; exact one_belowS _ _
  have y0 : V1.cell? ⟨V.heap.size, 0, none⟩ = some (.int .i64 xk) := by rw [← hV1]; exact alloc_cell _ _ _ 0 rfl
  have y1 : V1.cell? ⟨V.heap.size, 1, none⟩ = some (.int .i64 p) := by rw [← hV1]; exact alloc_cell _ _ _ 1 rfl
  have y2 : V1.cell? ⟨V.heap.size, 2, none⟩ = some (.int .i64 r) := by rw [← hV1]; exact alloc_cell _ _ _ 2 rfl
  have y3 : V1.cell? ⟨V.heap.size, 3, none⟩ = some (.int .i64 xc) := by rw [← hV1]; exact alloc_cell _ _ _ 3 rfl
  have y4 : V1.cell? ⟨V.heap.size, 4, none⟩ = some (.int .i64 xn) := by rw [← hV1]; exact alloc_cell _ _ _ 4 rfl
  have sV : V.heap.size < V1.heap.size := World.block_lt_of_cell? _ _ y0
  rw [hV1]
  clear hV1
  replace u0 := keepC u0 BV.out
  replace u1 := keepC u1 BV.out
  replace l0 := keepC l0 BV.out
  replace l1 := keepC l1 BV.out
  replace l2 := keepC l2 BV.out
  replace l3 := keepC l3 BV.out
  have n0 : ¬ V1.heap.size = d := by omega
  have o0 : ¬ d = V1.heap.size := by omega
  have n1 : ¬ V1.heap.size = h := by omega
  have o1 : ¬ h = V1.heap.size := by omega
  have n2 : ¬ V1.heap.size = V.heap.size := by omega
  have o2 : ¬ V.heap.size = V1.heap.size := by omega
  have hvd : d < V1.heap.size := by omega
  have hvh : h < V1.heap.size := by omega
  clear fz lt
  have nn0 : ¬ V1.heap.size + 1 = d := by omega
  have oo0 : ¬ d = V1.heap.size + 1 := by omega
  have nn1 : ¬ V1.heap.size + 1 = h := by omega
  have oo1 : ¬ h = V1.heap.size + 1 := by omega
  have nn2 : ¬ V1.heap.size + 1 = V.heap.size := by omega
  have oo2 : ¬ V.heap.size = V1.heap.size + 1 := by omega
  go_cut [6, 7, 8] (fun s6 s7 s8 wx => ∃ (b6 b7 : Nat) (a' : Option Addr) (c' : Nat), s6 = .pointer (some ⟨b6, 0, none⟩) ∧ s7 = .pointer (some ⟨b7, 0, none⟩) ∧ s8 = .int .i64 E ∧ Hid (Below V1.heap.size V1 wx) ∧ wx.cell? ⟨b6, 0, none⟩ = some (.slice a' T.length c') ∧ wx.cell? ⟨b7, 0, none⟩ = some (.int .i64 X0) ∧ wx.cell? ⟨b7, 1, none⟩ = some (.int .i64 Y0) ∧ V1.heap.size ≤ b6 ∧ V1.heap.size ≤ b7 ∧ Hid (St (fun b => b < V1.heap.size) (fun V => NdsAt V a' T) wx))
  case first =>
    go_region_held3 (fun w'' => w''.cell? ⟨d, 0, none⟩ = some (.slice (some ⟨g, 0, none⟩) ns c0) ∧ w''.cell? ⟨d, 1, none⟩ = some (.slice (some ⟨h, 0, none⟩) 16 c1) ∧ w''.cell? ⟨h, p * 2, none⟩ = some (.int .i64 P) ∧ w''.cell? ⟨h, p * 2 + 1, none⟩ = some (.int .i64 U) ∧ w''.cell? ⟨V.heap.size, 1, none⟩ = some (.int .i64 p) ∧ w''.cell? ⟨V.heap.size, 4, none⟩ = some (.int .i64 xn)) (go_keep) (first | (go_at_call 113; refine Calls.mono (D.out V1.drew (BV.out.trans ((Below.refl V1.heap.size V1).mono BV.out.size)).drew) ?_; rintro e w3 ⟨a', c', rfl, hb3, hn3⟩; have B3 : Hid (Below V1.heap.size V1 w3) := (Below.refl V1.heap.size V1).drew.trans (hb3.mono (by simp)); have N3 : Hid (St (fun b => b < V1.heap.size) (fun V => NdsAt V a' T) w3) := (by have h := hn3; first | exact h | (simp only [World.drew, World.size_alloc] at h; exact h)); have gl0 := keepC l0 B3.out; have gl1 := keepC l1 B3.out; have gu0 := keepC u0 B3.out; have gu1 := keepC u1 B3.out; have gy1 := keepC y1 B3.out; have gy4 := keepC y4 B3.out; clear hb3 hn3) | (go_at_call 113; refine Calls.mono (D.out (V1.alloc (.cells #[.slice none 0 0] 24)).drew (BV.out.trans ((one_belowS V1 _).mono BV.out.size)).drew) ?_; rintro e w3 ⟨a', c', rfl, hb3, hn3⟩; have B3 : Hid (Below V1.heap.size V1 w3) := (one_belowS V1 _).drew.trans (hb3.mono (by simp)); have N3 : Hid (St (fun b => b < V1.heap.size + 1) (fun V => NdsAt V a' T) w3) := (by have h := hn3; first | exact h | (simp only [World.drew, World.size_alloc] at h; exact h)); have gl0 := keepC l0 B3.out; have gl1 := keepC l1 B3.out; have gu0 := keepC u0 B3.out; have gu1 := keepC u1 B3.out; have gy1 := keepC y1 B3.out; have gy4 := keepC y4 B3.out; have XA : Hid (w3.heap[V1.heap.size]? = some (.cells #[.slice none 0 0] 24 (0, 0))) := (hb3.block _ (by first | (simp; done) | (simp; omega))).trans (heap_alloc_new V1 _); have ltA : V1.heap.size < w3.heap.size := box_lt XA.out; have neA : ¬ V1.heap.size = w3.heap.size := Nat.ne_of_lt ltA; have nfA : ¬ w3.heap.size = V1.heap.size := Ne.symm neA; have xa := box_cell XA.out; have xaf := fun o => box_frozen (o := o) XA.out; clear hb3 hn3) | (go_at_call 113; refine Calls.mono (D.out (V1.alloc (.cells #[.int .i64 0, .int .i64 0] 39)).drew (BV.out.trans ((one_belowS V1 _).mono BV.out.size)).drew) ?_; rintro e w3 ⟨a', c', rfl, hb3, hn3⟩; have B3 : Hid (Below V1.heap.size V1 w3) := (one_belowS V1 _).drew.trans (hb3.mono (by simp)); have N3 : Hid (St (fun b => b < V1.heap.size + 1) (fun V => NdsAt V a' T) w3) := (by have h := hn3; first | exact h | (simp only [World.drew, World.size_alloc] at h; exact h)); have gl0 := keepC l0 B3.out; have gl1 := keepC l1 B3.out; have gu0 := keepC u0 B3.out; have gu1 := keepC u1 B3.out; have gy1 := keepC y1 B3.out; have gy4 := keepC y4 B3.out; have XB : Hid (w3.heap[V1.heap.size]? = some (.cells #[.int .i64 0, .int .i64 0] 39 (0, 0))) := (hb3.block _ (by first | (simp; done) | (simp; omega))).trans (heap_alloc_new V1 _); have ltB : V1.heap.size < w3.heap.size := box_lt XB.out; have neB : ¬ V1.heap.size = w3.heap.size := Nat.ne_of_lt ltB; have nfB : ¬ w3.heap.size = V1.heap.size := Ne.symm neB; obtain ⟨xb0, xb1, xbl⟩ := box2_facts XB.out; have xbf := fun o => box2_frozen (o := o) XB.out; clear hb3 hn3) | (go_at_call 113; refine Calls.mono (D.out ((V1.alloc (.cells #[.slice none 0 0] 24)).alloc (.cells #[.int .i64 0, .int .i64 0] 39)).drew (BV.out.trans ((two_belowS V1 _ _).mono BV.out.size)).drew) ?_; rintro e w3 ⟨a', c', rfl, hb3, hn3⟩; have B3 : Hid (Below V1.heap.size V1 w3) := (two_belowS V1 _ _).drew.trans (hb3.mono (by simp; omega)); have N3 : Hid (St (fun b => b < V1.heap.size + 1 + 1) (fun V => NdsAt V a' T) w3) := (by have h := hn3; first | exact h | (simp only [World.drew, World.size_alloc] at h; exact h)); have gl0 := keepC l0 B3.out; have gl1 := keepC l1 B3.out; have gu0 := keepC u0 B3.out; have gu1 := keepC u1 B3.out; have gy1 := keepC y1 B3.out; have gy4 := keepC y4 B3.out; have XA : Hid (w3.heap[V1.heap.size]? = some (.cells #[.slice none 0 0] 24 (0, 0))) := (hb3.block _ (by first | (simp; done) | (simp; omega))).trans (two_first V1 _ _); have ltA : V1.heap.size < w3.heap.size := box_lt XA.out; have neA : ¬ V1.heap.size = w3.heap.size := Nat.ne_of_lt ltA; have nfA : ¬ w3.heap.size = V1.heap.size := Ne.symm neA; have xa := box_cell XA.out; have xaf := fun o => box_frozen (o := o) XA.out; have XB : Hid (w3.heap[V1.heap.size + 1]? = some (.cells #[.int .i64 0, .int .i64 0] 39 (0, 0))) := (hb3.block _ (by first | (simp; done) | (simp; omega))).trans (two_second V1 _ _); have ltB : V1.heap.size + 1 < w3.heap.size := box_lt XB.out; have neB : ¬ V1.heap.size + 1 = w3.heap.size := Nat.ne_of_lt ltB; have nfB : ¬ w3.heap.size = V1.heap.size + 1 := Ne.symm neB; obtain ⟨xb0, xb1, xbl⟩ := box2_facts XB.out; have xbf := fun o => box2_frozen (o := o) XB.out; clear hb3 hn3) | (go_at_call 113; refine Calls.mono (D.out ((V1.alloc (.cells #[.int .i64 0, .int .i64 0] 39)).alloc (.cells #[.slice none 0 0] 24)).drew (BV.out.trans ((two_belowS V1 _ _).mono BV.out.size)).drew) ?_; rintro e w3 ⟨a', c', rfl, hb3, hn3⟩; have B3 : Hid (Below V1.heap.size V1 w3) := (two_belowS V1 _ _).drew.trans (hb3.mono (by simp; omega)); have N3 : Hid (St (fun b => b < V1.heap.size + 1 + 1) (fun V => NdsAt V a' T) w3) := (by have h := hn3; first | exact h | (simp only [World.drew, World.size_alloc] at h; exact h)); have gl0 := keepC l0 B3.out; have gl1 := keepC l1 B3.out; have gu0 := keepC u0 B3.out; have gu1 := keepC u1 B3.out; have gy1 := keepC y1 B3.out; have gy4 := keepC y4 B3.out; have XB : Hid (w3.heap[V1.heap.size]? = some (.cells #[.int .i64 0, .int .i64 0] 39 (0, 0))) := (hb3.block _ (by first | (simp; done) | (simp; omega))).trans (two_first V1 _ _); have ltB : V1.heap.size < w3.heap.size := box_lt XB.out; have neB : ¬ V1.heap.size = w3.heap.size := Nat.ne_of_lt ltB; have nfB : ¬ w3.heap.size = V1.heap.size := Ne.symm neB; obtain ⟨xb0, xb1, xbl⟩ := box2_facts XB.out; have xbf := fun o => box2_frozen (o := o) XB.out; have XA : Hid (w3.heap[V1.heap.size + 1]? = some (.cells #[.slice none 0 0] 24 (0, 0))) := (hb3.block _ (by first | (simp; done) | (simp; omega))).trans (two_second V1 _ _); have ltA : V1.heap.size + 1 < w3.heap.size := box_lt XA.out; have neA : ¬ V1.heap.size + 1 = w3.heap.size := Nat.ne_of_lt ltA; have nfA : ¬ w3.heap.size = V1.heap.size + 1 := Ne.symm neA; have xa := box_cell XA.out; have xaf := fun o => box_frozen (o := o) XA.out; clear hb3 hn3))
    all_goals
      go_wp2_with fail
      go_meet
      case rel =>
        have zz := B3.out.size
        refine ⟨_, _, a', c', rfl, rfl, rfl, ?_, by go_simp, by go_simp, by go_simp, by omega, by omega, ?_⟩
        · show Below _ _ _
          repeat (first | exact B3.out | refine Below.setCell ?_ (by simp) _ | refine Below.alloc ?_ (by first | omega | (simp; omega)) _)
        · refine (St.off N3.out ?_).less (fun b hb => by have h : b < V1.heap.size := hb; show b < _; omega)
          repeat (first | exact OffX.refl _ _ | refine OffX.trans ?_ (OffX.set _ _ (by show _ < _; omega)) | refine OffX.trans ?_ (OffX.of_below (one_belowS _ _)))
  case rest =>
    obtain ⟨b6, b7, a', c', rfl, rfl, rfl, HB, h6, h70, h71, hl6, hl7, HN⟩ := hcut
    have I2 : Hid _ := II.out.below (BV.out.trans (HB.out.mono BV.out.size))
    obtain ⟨m0, m1, m2, m3, mf, ml⟩ := box4_facts I2.out.box
    dsimp only at m0 m1
    rw [HL.out] at m1
    obtain ⟨r0, r1⟩ := I2.out.hand (k := r) (by rw [HL.out]; omega)
    have rf := I2.out.row.frozen
    have yA := keepC y2 HB.out
    have e1 : ¬ h = d := II.out.dh
    have e2 : ¬ d = h := Ne.symm II.out.dh
    have e3 : ¬ d = b6 := by omega
    have e4 : ¬ d = b7 := by omega
    have e5 : ¬ h = b6 := by omega
    have e6 : ¬ h = b7 := by omega
    have e7 : ¬ d = V.heap.size := by omega
    have e8 : ¬ h = V.heap.size := by omega
    have HS : Hid _ := I2.out.storeHand c' HN.out (by have := II.out.base; omega) (k := r) (by rw [HL.out]; omega) (X0, Y0) rfl
    clear II D u0 u1 l0 l1 l2 l3 y0 y1 y2 y3 y4 m2 m3
    go_wp2_with fail
    go_region
    go_wp2
    refine bodyPost_ret (v := .tuple #[.int .i64 0, .int .i64 E]) (by simp [results, Tryz.results68, go_sem]) rfl ⟨0, rfl, HS.out.1.drew, fun hE => ?_⟩
    have h2 := HQ.out hE
    rw [Int.toNat_natCast] at h2
    rw [h2]
    exact ⟨rfl, _, HS.out.2.1, HS.out.2.2.below (Below.refl _ _).drew⟩
end Go.Proofs.YtgjfmepbphfjoaaGreat
