/-
  Do.
-/
import Derived.Test.YtgjfmepbphfjoaaGreatUDwkDwl
namespace Go.Proofs.YtgjfmepbphfjoaaGreat
open Go.RowKit Go.ChangeShapes Go.WideShapes
set_option linter.unusedVariables false

set_option maxRecDepth 100000 in
set_option maxHeartbeats 4000000 in
theorem do_err1 (A : RA) (R : Rl) (x : Ac) (E : Int) (w : World) (hB : BigR R) (hW : RlAt w A R) (hE : rcheckE R = E) (hE0 : E ≠ 0) :
    Calls Tryz.prog 9 #[rlV A R, acV x] w fun e w' => ∃ B : RA, e = .returned (.tuple #[rlV B zeroRl, .int .i64 0, .int .i64 E]) ∧ Below w.heap.size w w' ∧ RlAt w' B zeroRl := by
  have D0 : Hid (∀ W, RlAt W A R → Calls _ _ _ _ _) := fun W hW => rcheck_ans A R W hB hW
  rw [hE] at D0
  have hz : (E == 0) = false := by simp [hE0]
  have I0 : Hid _ := doI_start w A R x hW
  clear hW hE hB hE0
  obtain ⟨xk, xa, xb, xc, xn⟩ := x
  obtain ⟨a0, a1, a2, a3, c0, c1, c2, c3⟩ := A
  dsimp only [rlV, acV] at *
  go_enter Tryz.func9, Tryz.ntmps9
  go_wp2_with fail
  refine Calls.mono (D0.out _ I0.out.rl) ?_
  rintro e V1 ⟨rfl, hb⟩
  have I1 : Hid _ := I0.out.below hb
  clear hb D0 I0
  obtain ⟨r0, r1, r2, r3, rf, rl⟩ := box4_facts I1.out.r
  obtain ⟨z0, z1, z2, z3, zf, zl⟩ := box4_facts I1.out.z
  obtain ⟨y0, y1, y2, y3, y4, yl⟩ := box5D_facts I1.out.x
  go_wp2
  obtain ⟨X, hX⟩ : ∃ X, (((V1.setCell ⟨w.heap.size + 1 + 1, 0, none⟩ (.slice none 0 0)).setCell ⟨w.heap.size + 1 + 1, 1, none⟩ (.slice none 0 0)).setCell ⟨w.heap.size + 1 + 1, 2, none⟩ (.slice none 0 0)).setCell ⟨w.heap.size + 1 + 1, 3, none⟩ (.slice none 0 0) = X := ⟨_, rfl⟩
  have x0 : X.heap[w.heap.size + 1 + 1]? = some (.cells #[.slice none 0 0, .slice none 0 0, .slice none 0 0, .slice none 0 0] 31 (0, 0)) := by rw [← hX]; exact box4_set I1.out.z
  have xb : Below w.heap.size w X := by rw [← hX]; exact (((I1.out.bel.setCell (by simp; omega) _).setCell (by simp; omega) _).setCell (by simp; omega) _).setCell (by simp; omega) _
  rw [hX]
  obtain ⟨m0, m1, m2, m3, mf, ml⟩ := box4_facts x0
  exact bodyPost_ret (v := .tuple #[.agg #[.slice none 0 0, .slice none 0 0, .slice none 0 0, .slice none 0 0], .int .i64 0, .int .i64 E]) (by simp [results, Tryz.results9, go_sem, m0, m1, m2, m3]) rfl ⟨⟨none, none, none, none, 0, 0, 0, 0⟩, rfl, xb, rl_zero _ _⟩

set_option maxRecDepth 100000 in
set_option maxHeartbeats 4000000 in
theorem do_err2 (A : RA) (R : Rl) (x : Ac) (w : World) (hR : rcheckE R = 0) (hW : RlAt w A R) (ha : ¬ isH x.a) :
    Calls Tryz.prog 9 #[rlV A R, acV x] w fun e w' => ∃ B : RA, e = .returned (.tuple #[rlV B zeroRl, .int .i64 0, .int .i64 4]) ∧ Below w.heap.size w w' ∧ RlAt w' B zeroRl := by
  have hl := (rcheck_parts hR).2.1
  have D0 : Hid (∀ W, RlAt W A R → Calls _ _ _ _ _) := fun W hW => rcheck_ans A R W (big_right hR) hW
  rw [hR] at D0
  have D1 : Hid (∀ W, Calls _ _ _ _ _) := fun W => isHand_any A R x.a W hl
  rw [show decide (isH x.a) = false from decide_eq_false ha] at D1
  have I0 : Hid _ := doI_start w A R x hW
  clear hW ha hR hl
  obtain ⟨xk, xa, xb, xc, xn⟩ := x
  obtain ⟨a0, a1, a2, a3, c0, c1, c2, c3⟩ := A
  dsimp only [rlV, acV] at *
  go_enter Tryz.func9, Tryz.ntmps9
  go_wp2_with fail
  refine Calls.mono (D0.out _ I0.out.rl) ?_
  rintro e V1 ⟨rfl, hb⟩
  have I1 : Hid _ := I0.out.below hb
  clear hb D0 I0
  obtain ⟨r0, r1, r2, r3, rf, rl⟩ := box4_facts I1.out.r
  obtain ⟨z0, z1, z2, z3, zf, zl⟩ := box4_facts I1.out.z
  obtain ⟨y0, y1, y2, y3, y4, yl⟩ := box5D_facts I1.out.x
  go_wp2_with fail
  refine Calls.mono (D1.out _) ?_
  rintro e V2 ⟨rfl, hb⟩
  have I2 : Hid _ := I1.out.below hb
  clear r0 r1 r2 r3 rf rl z0 z1 z2 z3 zf zl y0 y1 y2 y3 y4 yl
  clear hb D1 I1
  obtain ⟨r0, r1, r2, r3, rf, rl⟩ := box4_facts I2.out.r
  obtain ⟨z0, z1, z2, z3, zf, zl⟩ := box4_facts I2.out.z
  obtain ⟨y0, y1, y2, y3, y4, yl⟩ := box5D_facts I2.out.x
  go_wp2
  obtain ⟨X, hX⟩ : ∃ X, (((V2.setCell ⟨w.heap.size + 1 + 1, 0, none⟩ (.slice none 0 0)).setCell ⟨w.heap.size + 1 + 1, 1, none⟩ (.slice none 0 0)).setCell ⟨w.heap.size + 1 + 1, 2, none⟩ (.slice none 0 0)).setCell ⟨w.heap.size + 1 + 1, 3, none⟩ (.slice none 0 0) = X := ⟨_, rfl⟩
  have x0 : X.heap[w.heap.size + 1 + 1]? = some (.cells #[.slice none 0 0, .slice none 0 0, .slice none 0 0, .slice none 0 0] 31 (0, 0)) := by rw [← hX]; exact box4_set I2.out.z
  have xb : Below w.heap.size w X := by rw [← hX]; exact (((I2.out.bel.setCell (by simp; omega) _).setCell (by simp; omega) _).setCell (by simp; omega) _).setCell (by simp; omega) _
  rw [hX]
  obtain ⟨m0, m1, m2, m3, mf, ml⟩ := box4_facts x0
  exact bodyPost_ret (v := .tuple #[.agg #[.slice none 0 0, .slice none 0 0, .slice none 0 0, .slice none 0 0], .int .i64 0, .int .i64 4]) (by simp [results, Tryz.results9, go_sem, m0, m1, m2, m3]) rfl ⟨⟨none, none, none, none, 0, 0, 0, 0⟩, rfl, xb, rl_zero _ _⟩

set_option maxRecDepth 100000 in
set_option maxHeartbeats 4000000 in
theorem do_none (A : RA) (R : Rl) (x : Ac) (w : World) (hR : rcheckE R = 0) (hW : RlAt w A R) (ha : isH x.a) (hk : x.k ≠ 1 ∧ x.k ≠ 2 ∧ x.k ≠ 4 ∧ x.k ≠ 6 ∧ x.k ≠ 5 ∧ x.k ≠ 11 ∧ x.k ≠ 14 ∧ x.k ≠ 15 ∧ x.k ≠ 3 ∧ x.k ≠ 7 ∧ x.k ≠ 8) :
    Calls Tryz.prog 9 #[rlV A R, acV x] w fun e w' => ∃ B : RA, e = .returned (.tuple #[rlV B zeroRl, .int .i64 0, .int .i64 3]) ∧ Below w.heap.size w w' ∧ RlAt w' B zeroRl := by
  have hl := (rcheck_parts hR).2.1
  have D0 : Hid (∀ W, RlAt W A R → Calls _ _ _ _ _) := fun W hW => rcheck_ans A R W (big_right hR) hW
  rw [hR] at D0
  have D1 : Hid (∀ W, Calls _ _ _ _ _) := fun W => isHand_any A R x.a W hl
  rw [show decide (isH x.a) = true from decide_eq_true ha] at D1
  have D2 : Hid (∀ W, Calls _ _ _ _ _) := fun W => deedOf_no x.k W hk
  have I0 : Hid _ := doI_start w A R x hW
  clear hW ha hR hl hk
  obtain ⟨xk, xa, xb, xc, xn⟩ := x
  obtain ⟨a0, a1, a2, a3, c0, c1, c2, c3⟩ := A
  dsimp only [rlV, acV] at *
  go_enter Tryz.func9, Tryz.ntmps9
  go_wp2_with fail
  refine Calls.mono (D0.out _ I0.out.rl) ?_
  rintro e V1 ⟨rfl, hb⟩
  have I1 : Hid _ := I0.out.below hb
  clear hb D0 I0
  obtain ⟨r0, r1, r2, r3, rf, rl⟩ := box4_facts I1.out.r
  obtain ⟨z0, z1, z2, z3, zf, zl⟩ := box4_facts I1.out.z
  obtain ⟨y0, y1, y2, y3, y4, yl⟩ := box5D_facts I1.out.x
  go_wp2_with fail
  refine Calls.mono (D1.out _) ?_
  rintro e V2 ⟨rfl, hb⟩
  have I2 : Hid _ := I1.out.below hb
  clear r0 r1 r2 r3 rf rl z0 z1 z2 z3 zf zl y0 y1 y2 y3 y4 yl
  clear hb D1 I1
  obtain ⟨r0, r1, r2, r3, rf, rl⟩ := box4_facts I2.out.r
  obtain ⟨z0, z1, z2, z3, zf, zl⟩ := box4_facts I2.out.z
  obtain ⟨y0, y1, y2, y3, y4, yl⟩ := box5D_facts I2.out.x
  have hnf : ∀ w : World, (binOp BinOp.eql 64 Value.nilFunc Value.nilFunc).run Tryz.prog w = .ok (.bool true) w := fun _ => by kernel_rfl
  go_wp2_with fail
  refine Calls.mono (D2.out _) ?_
  rintro e w6 ⟨rfl, hw6⟩
  have hw7 := hw6.symm
  clear hw6
  subst hw7
  go_wp2
  obtain ⟨X, hX⟩ : ∃ X, (((V2.setCell ⟨w.heap.size + 1 + 1, 0, none⟩ (.slice none 0 0)).setCell ⟨w.heap.size + 1 + 1, 1, none⟩ (.slice none 0 0)).setCell ⟨w.heap.size + 1 + 1, 2, none⟩ (.slice none 0 0)).setCell ⟨w.heap.size + 1 + 1, 3, none⟩ (.slice none 0 0) = X := ⟨_, rfl⟩
  have x0 : X.heap[w.heap.size + 1 + 1]? = some (.cells #[.slice none 0 0, .slice none 0 0, .slice none 0 0, .slice none 0 0] 31 (0, 0)) := by rw [← hX]; exact box4_set I2.out.z
  have xb : Below w.heap.size w X := by rw [← hX]; exact (((I2.out.bel.setCell (by simp; omega) _).setCell (by simp; omega) _).setCell (by simp; omega) _).setCell (by simp; omega) _
  rw [hX]
  obtain ⟨m0, m1, m2, m3, mf, ml⟩ := box4_facts x0
  exact bodyPost_ret (v := .tuple #[.agg #[.slice none 0 0, .slice none 0 0, .slice none 0 0, .slice none 0 0], .int .i64 0, .int .i64 3]) (by simp [results, Tryz.results9, go_sem, m0, m1, m2, m3]) rfl ⟨⟨none, none, none, none, 0, 0, 0, 0⟩, rfl, xb, rl_zero _ _⟩

theorem wf_of {R : Rl} (h : rcheckE R = 0) : WF R.s := (rcheck_parts h).1
/-- A deed that a maker has made. -/
theorem deedOf_made {R : Rl} {x : Ac} {q : Rs} {k : Int} {G F : Nat} (hk : x.k = k) (eg : ∀ args w, (callFunc G args).run Tryz.prog w = .ok (.enter G args) w)
    (h : ∀ W, Calls Tryz.prog 23 #[.int .i64 k] W fun e w' => ∃ cb, e = .returned (.func (.func G) #[] #[.pointer (some ⟨cb, 0, none⟩)]) ∧ Below W.heap.size W w' ∧ w'.cell? ⟨cb, 0, none⟩ = some (.func (.func F) #[] #[]))
    (hd : ∀ cb (w : World), w.cell? ⟨cb, 0, none⟩ = some (.func (.func F) #[] #[]) → Deed G #[.pointer (some ⟨cb, 0, none⟩)] w R x q) : DeedOf R x q := fun W => by
  rw [hk]
  refine (h W).mono ?_
  rintro e w' ⟨cb, rfl, hb, hc⟩
  exact ⟨G, _, rfl, hb, eg, fun w0 h0 => hd cb w0 ((h0.cell (World.block_lt_of_cell? _ _ hc)).trans hc)⟩
theorem deedOf_plain {R : Rl} {x : Ac} {q : Rs} {k : Int} {G : Nat} (hk : x.k = k) (eg : ∀ args w, (callFunc G args).run Tryz.prog w = .ok (.enter G args) w)
    (h : ∀ W, Calls Tryz.prog 23 #[.int .i64 k] W fun e w' => e = .returned (.func (.func G) #[] #[]) ∧ w' = W) (hd : ∀ w : World, Deed G #[] w R x q) : DeedOf R x q := fun W => by
  rw [hk]
  refine (h W).mono ?_
  rintro e w' ⟨rfl, rfl⟩
  exact ⟨G, _, rfl, Below.refl _ _, eg, fun w0 _ => hd w0⟩
theorem aMake_0 {R : Rl} {a n : Int} (h : makeE R.s n = 0) : aMake R a n = ⟨0, ⟨rS (makeE R.s n) (mkS R.s n), R.hs.set a.toNat (rH (makeE R.s n) (mkH R.s)), R.i, R.t⟩, 0⟩ := by
  unfold aMake
  rw [ans_0 h, h]
  rfl
theorem aHost_0 {R : Rl} {b : Int} {h : Int × Int} {c : Bool} (e : hosE R.s h.1 h.2 = 0) : aHost R b h c = ⟨0, ⟨rS (hosE R.s h.1 h.2) (hosS R.s h.1 c), R.hs.set b.toNat (rH (hosE R.s h.1 h.2) (mkH R.s)), R.i, R.t⟩, 0⟩ := by
  unfold aHost
  rw [ans_0 e, e]
  rfl
theorem deeds (R : Rl) (x : Ac) (hR : rcheckE R = 0) (ha : isH x.a) (hk : ¬ (x.k ≠ 1 ∧ x.k ≠ 2 ∧ x.k ≠ 4 ∧ x.k ≠ 6 ∧ x.k ≠ 5 ∧ x.k ≠ 11 ∧ x.k ≠ 14 ∧ x.k ≠ 15 ∧ x.k ≠ 3 ∧ x.k ≠ 7 ∧ x.k ≠ 8)) : DeedOf R x (doG R x) := by
  obtain ⟨wf, hl, hg, _⟩ := rcheck_parts hR
  have hg24 := (gright_big hg).1
  unfold doG
  rw [if_pos ha]
  by_cases k1 : x.k = 1
  · rw [if_pos k1]
    exact deedOf_plain k1 (enters_of Tryz.func55 (by kernel_rfl) rfl) deedOf_1 (fun w => makeNode_any w R x hl ha _ _ _ (make_st R.s x.n wf) _ (ans_e _ _ _) aMake_0)
  rw [if_neg k1]
  by_cases k2 : x.k = 2
  · rw [if_pos k2]
    exact deedOf_made k2 (enters_of Tryz.func102 (by kernel_rfl) rfl) deedOf_2 (fun cb w hc => change_any _ (enters_of Tryz.func57 (by kernel_rfl) rfl) cb w hc R x hl ha _ _ (free_ans R.s (hd R x.a) wf))
  rw [if_neg k2]
  by_cases k4 : x.k = 4
  · rw [if_pos k4]
    exact deedOf_made k4 (enters_of Tryz.func102 (by kernel_rfl) rfl) deedOf_4 (fun cb w hc => change_any _ (enters_of Tryz.func58 (by kernel_rfl) rfl) cb w hc R x hl ha _ _ (remove_ans R.s (hd R x.a) wf))
  rw [if_neg k4]
  by_cases k6 : x.k = 6
  · rw [if_pos k6]
    exact deedOf_plain k6 (enters_of Tryz.func59 (by kernel_rfl) rfl) deedOf_6 (fun w => tellMark_any w R x wf hl ha)
  rw [if_neg k6]
  by_cases k5 : x.k = 5
  · rw [if_pos k5]
    exact deedOf_made k5 (enters_of Tryz.func107 (by kernel_rfl) rfl) deedOf_5 (fun cb w hc => mark_yes _ (enters_of Tryz.func61 (by kernel_rfl) rfl) cb w hc R x wf hl ha x.n (fun a c W _ => ownNumber_any a _ c x.n W))
  rw [if_neg k5]
  by_cases k11 : x.k = 11
  · rw [if_pos k11]
    unfold aTake
    by_cases hn : 0 ≤ x.n ∧ x.n < R.i.length
    · rw [if_pos hn]
      obtain ⟨j, hj⟩ : ∃ j : Nat, x.n = j := ⟨x.n.toNat, by omega⟩
      refine deedOf_made k11 (enters_of Tryz.func107 (by kernel_rfl) rfl) deedOf_11 (fun cb w hc => mark_yes _ (enters_of Tryz.func62 (by kernel_rfl) rfl) cb w hc R x wf hl ha _ (fun a c W hW => ?_))
      rw [hj, Int.toNat_natCast]
      exact cellNumber_yes a c R.i j W hW (by omega) hg24
    · rw [if_neg hn]
      exact deedOf_made k11 (enters_of Tryz.func107 (by kernel_rfl) rfl) deedOf_11 (fun cb w hc => mark_no _ (enters_of Tryz.func62 (by kernel_rfl) rfl) cb w hc R x wf hl ha 4 0 (by decide) (fun a c W _ => cellNumber_no a _ c x.n W hn hg24))
  rw [if_neg k11]
  by_cases k14 : x.k = 14
  · rw [if_pos k14]
    exact deedOf_made k14 (enters_of Tryz.func108 (by kernel_rfl) rfl) deedOf_14 (fun cb w hc => tellHow_any _ (enters_of Tryz.func64 (by kernel_rfl) rfl) cb w hc R x hl ha _ _ (fun a c W hW => findTagged_any R.s (hd R x.a) x wf a c W hW))
  rw [if_neg k14]
  by_cases k15 : x.k = 15
  · rw [if_pos k15]
    exact deedOf_made k15 (enters_of Tryz.func108 (by kernel_rfl) rfl) deedOf_15 (fun cb w hc => tellHow_any _ (enters_of Tryz.func65 (by kernel_rfl) rfl) cb w hc R x hl ha _ _ (fun a c W hW => findShown_any R.s (hd R x.a) x wf a c W hW))
  rw [if_neg k15]
  have kk : x.k = 3 ∨ x.k = 7 ∨ x.k = 8 := by omega
  rw [if_pos kk]
  have wb : (∀ args w, (callFunc 111 args).run Tryz.prog w = .ok (.enter 111 args) w) := enters_of Tryz.func111 (by kernel_rfl) rfl
  have eh := enters_of Tryz.func68 (by kernel_rfl) rfl
  have eu := enters_of Tryz.func69 (by kernel_rfl) rfl
  have ei := enters_of Tryz.func67 (by kernel_rfl) rfl
  by_cases hb : isH x.b
  · rw [if_pos hb]
    by_cases k7 : x.k = 7
    · rw [if_pos k7]
      exact deedOf_made k7 wb deedOf_7 (fun cb w hc => withB_yes _ eh cb w hc R x hl hb _ (host_any w R x hl ha hb _ _ _ (host_st R.s (hd R x.a) (decide (x.n = 1)) wf) _ (ans_e _ _ _) aHost_0))
    rw [if_neg k7]
    by_cases k8 : x.k = 8
    · rw [if_pos k8]
      exact deedOf_made k8 wb deedOf_8 (fun cb w hc => withB_yes _ eu cb w hc R x hl hb _ (up_any w R x wf hl ha hb))
    rw [if_neg k8]
    have k3 : x.k = 3 := by omega
    refine deedOf_made k3 wb deedOf_3 (fun cb w hc => withB_yes _ ei cb w hc R x hl hb _ ?_)
    by_cases hc0 : x.c < 0
    · rw [if_pos hc0]
      exact insert_0 w R x wf hl ha hb hc0
    rw [if_neg hc0]
    by_cases hc1 : isH x.c
    · rw [if_pos hc1]
      exact insert_1 w R x wf hl ha hb hc1
    · rw [if_neg hc1]
      exact insert_no w R x wf hl ha hb hc0 hc1
  · rw [if_neg hb]
    rcases kk with k3 | k7 | k8
    · exact deedOf_made k3 wb deedOf_3 (fun cb w hc => withB_no _ ei cb w hc R x hl hb)
    · exact deedOf_made k7 wb deedOf_7 (fun cb w hc => withB_no _ eh cb w hc R x hl hb)
    · exact deedOf_made k8 wb deedOf_8 (fun cb w hc => withB_no _ eu cb w hc R x hl hb)
/-- Do, the realm that it answers in memory of its own. -/
def DoAnsX : Prop := ∀ (A : RA) (R : Rl) (x : Ac) (w : World), BigR R → RlAt w A R →
  Calls Tryz.prog 9 #[rlV A R, acV x] w fun e w' => ∃ B : RA, e = .returned (.tuple #[rlV B (doF R x).r, .int .i64 (doF R x).o, .int .i64 (doF R x).e]) ∧ Below w.heap.size w w' ∧ RlAt w' B (doF R x).r ∧ ((doF R x).e = 0 → RlO w.heap.size w' B (doF R x).r)
theorem do_ansX : DoAnsX := fun A R x w hB hW => by
  by_cases hR : rcheckE R = 0
  · have e : doF R x = doG R x := if_pos hR
    rw [e]
    by_cases ha : isH x.a
    · by_cases hk : x.k ≠ 1 ∧ x.k ≠ 2 ∧ x.k ≠ 4 ∧ x.k ≠ 6 ∧ x.k ≠ 5 ∧ x.k ≠ 11 ∧ x.k ≠ 14 ∧ x.k ≠ 15 ∧ x.k ≠ 3 ∧ x.k ≠ 7 ∧ x.k ≠ 8
      · have e2 : doG R x = bad 3 := by
          obtain ⟨h1, h2, h4, h6, h5, h11, h14, h15, h3, h7, h8⟩ := hk
          unfold doG
          rw [if_pos ha, if_neg h1, if_neg h2, if_neg h4, if_neg h6, if_neg h5, if_neg h11, if_neg h14, if_neg h15, if_neg (by omega)]
        rw [e2]
        exact (do_none A R x w hR hW ha hk).mono (fun e w' ⟨B, h1, h2, h3⟩ => ⟨B, h1, h2, h3, fun h => absurd h (by decide)⟩)
      · have h := do_good A R x _ w hR hW ha (deeds R x hR ha hk)
        have s := doG_no R x
        by_cases h0 : (doG R x).e = 0
        · rw [if_pos h0, if_pos h0] at h
          exact h
        · rw [if_neg h0, if_neg h0] at h
          rw [(s h0).1, (s h0).2]
          exact h
    · have e2 : doG R x = bad 4 := by unfold doG; rw [if_neg ha]
      rw [e2]
      exact (do_err2 A R x w hR hW ha).mono (fun e w' ⟨B, h1, h2, h3⟩ => ⟨B, h1, h2, h3, fun h => absurd h (by decide)⟩)
  · have e : doF R x = bad (rcheckE R) := if_neg hR
    rw [e]
    exact (do_err1 A R x _ w hB hW rfl hR).mono (fun e w' ⟨B, h1, h2, h3⟩ => ⟨B, h1, h2, h3, fun h => absurd h hR⟩)
theorem do_ans : DoAns := fun A R x w hB hW => (do_ansX A R x w hB hW).mono (fun e w' ⟨B, h1, h2, h3, _⟩ => ⟨B, h1, h2, h3⟩)
end Go.Proofs.YtgjfmepbphfjoaaGreat
