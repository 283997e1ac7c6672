/-
  Do, over what deedOf answers.
-/
import Derived.Test.YtgjfmepbphfjoaaGreatUDwcDwd
import Derived.Test.YtgjfmepbphfjoaaGreatUDwf
import Derived.Test.YtgjfmepbphfjoaaGreatUDwg
import Derived.Test.YtgjfmepbphfjoaaGreatUDwiDwj
import Derived.Test.YtgjfmepbphfjoaaGreatUDwn
namespace Go.Proofs.YtgjfmepbphfjoaaGreat
open Go.RowKit Go.ChangeShapes Go.WideShapes
set_option linter.unusedVariables false

/-- What deedOf answers for an act that there is. -/
def DeedOf (R : Rl) (x : Ac) (q : Rs) : Prop := ∀ W : World, Calls Tryz.prog 23 #[.int .i64 x.k] W fun e w' => ∃ (K : Nat) (caps : Array Value), e = .returned (.func (.func K) #[] caps) ∧ Below W.heap.size W w' ∧ (∀ args w, (callFunc K args).run Tryz.prog w = .ok (.enter K args) w) ∧ ∀ w0, Below w'.heap.size w' w0 → Deed K caps w0 R x q
theorem zbox_facts {w W : World} {o1 o2 : Obj} {t : Nat} {v0 v1 v2 v3 : Value} (hb : Below (w.heap.size + 1 + 1 + 1) (((w.alloc o1).alloc o2).alloc (.cells #[v0, v1, v2, v3] t)) W) : W.heap[w.heap.size + 1 + 1]? = some (.cells #[v0, v1, v2, v3] t (0, 0)) := by
  have h := box4_new ((w.alloc o1).alloc o2) t v0 v1 v2 v3
  simp only [World.size_alloc] at h
  exact (hb.block _ (Nat.lt_succ_self _)).trans h
theorem box5D_facts {W : World} {b t : Nat} {v0 v1 v2 v3 v4 : Value} (h : W.heap[b]? = some (.cells #[v0, v1, v2, v3, v4] t (0, 0))) : W.cell? ⟨b, 0, none⟩ = some v0 ∧ W.cell? ⟨b, 1, none⟩ = some v1 ∧ W.cell? ⟨b, 2, none⟩ = some v2 ∧ W.cell? ⟨b, 3, none⟩ = some v3 ∧ W.cell? ⟨b, 4, none⟩ = some v4 ∧ b < W.heap.size :=
  ⟨by simp [World.cell?, h], by simp [World.cell?, h], by simp [World.cell?, h], by simp [World.cell?, h], by simp [World.cell?, h], box_lt h⟩
/-- The boxes that Do makes. -/
structure DoI (w : World) (A : RA) (R : Rl) (x : Ac) (V : World) : Prop where
  bel : Below w.heap.size w V
  r : V.heap[w.heap.size]? = some (bxR A R)
  x : V.heap[w.heap.size + 1]? = some (.cells #[.int .i64 x.k, .int .i64 x.a, .int .i64 x.b, .int .i64 x.c, .int .i64 x.n] 41 (0, 0))
  z : V.heap[w.heap.size + 1 + 1]? = some (.cells #[.slice none 0 0, .slice none 0 0, .slice none 0 0, .slice none 0 0] 31 (0, 0))
  rl : RlAt V A R
theorem DoI.below {w V V' : World} {A : RA} {R : Rl} {x : Ac} (I : DoI w A R x V) (hb : Below V.heap.size V V') : DoI w A R x V' := ⟨I.bel.trans (hb.mono I.bel.size), keepB I.r hb, keepB I.x hb, keepB I.z hb, I.rl.below hb⟩
theorem doI_start (w : World) (A : RA) (R : Rl) (x : Ac) (h : RlAt w A R) : DoI w A R x (((w.alloc (.cells #[.slice A.a0 R.s.length A.c0, .slice A.a1 R.hs.length A.c1, .slice A.a2 R.i.length A.c2, .slice A.a3 R.t.length A.c3] 31)).alloc (.cells #[.int .i64 x.k, .int .i64 x.a, .int .i64 x.b, .int .i64 x.c, .int .i64 x.n] 41)).alloc (.cells #[.slice none 0 0, .slice none 0 0, .slice none 0 0, .slice none 0 0] 31)) := by
  have b1 := one_belowS w (.cells #[.slice A.a0 R.s.length A.c0, .slice A.a1 R.hs.length A.c1, .slice A.a2 R.i.length A.c2, .slice A.a3 R.t.length A.c3] 31)
  obtain ⟨w1, h1⟩ : ∃ w1, w.alloc (.cells #[.slice A.a0 R.s.length A.c0, .slice A.a1 R.hs.length A.c1, .slice A.a2 R.i.length A.c2, .slice A.a3 R.t.length A.c3] 31) = w1 := ⟨_, rfl⟩
  have n1 := box4_new w 31 (.slice A.a0 R.s.length A.c0) (.slice A.a1 R.hs.length A.c1) (.slice A.a2 R.i.length A.c2) (.slice A.a3 R.t.length A.c3)
  have s1 : w1.heap.size = w.heap.size + 1 := by rw [← h1]; simp
  rw [h1] at b1 n1 ⊢
  have b2 := one_belowS w1 (.cells #[.int .i64 x.k, .int .i64 x.a, .int .i64 x.b, .int .i64 x.c, .int .i64 x.n] 41)
  have n2 := heap_alloc_new w1 (.cells #[.int .i64 x.k, .int .i64 x.a, .int .i64 x.b, .int .i64 x.c, .int .i64 x.n] 41)
  obtain ⟨w2, h2⟩ : ∃ w2, w1.alloc (.cells #[.int .i64 x.k, .int .i64 x.a, .int .i64 x.b, .int .i64 x.c, .int .i64 x.n] 41) = w2 := ⟨_, rfl⟩
  have s2 : w2.heap.size = w1.heap.size + 1 := by rw [← h2]; simp
  rw [h2] at b2 n2 ⊢
  have b3 := one_belowS w2 (.cells #[.slice none 0 0, .slice none 0 0, .slice none 0 0, .slice none 0 0] 31)
  have n3 := box4_new w2 31 (.slice none 0 0) (.slice none 0 0) (.slice none 0 0) (.slice none 0 0)
  rw [s2, s1] at n3
  rw [s1] at n2
  exact ⟨b1.trans ((b2.trans (b3.mono b2.size)).mono b1.size), keepB (keepB n1 b2) b3, keepB n2 b3, n3, ((h.below b1).below b2).below b3⟩

/-- A realm in memory of its own, what was told in a row too. -/
structure RlO (B : Nat) (V : World) (A : RA) (R : Rl) : Prop where
  a3 : A.a3 = some ⟨tOf A, 0, none⟩
  c3 : A.c3 = R.t.length
  t0 : B ≤ tOf A
  tr : V.rowIs (tOf A) 3 R.t.length (toldF R)
  st : St (fun b => b < B ∨ b = tOf A) (fun V => NdsAt V A.a0 R.s ∧ HandsAt V A.a1 R.hs ∧ ClsAt V A.a2 R.i) V
theorem RlO.at {B : Nat} {V : World} {A : RA} {R : Rl} (h : RlO B V A R) : RlAt V A R := ⟨h.st.at.1, h.st.at.2.1, h.st.at.2.2, by rw [h.a3]; exact ints_row h.tr⟩
theorem RlF.rlo {n B d : Nat} {V : World} {A : RA} {R : Rl} (h : RlF n d V A R) (hn : B ≤ n) : RlO B V A R := ⟨h.a3, h.c3, Nat.le_trans hn h.t0, h.tr, h.st.less (fun b hb => by omega)⟩

set_option maxRecDepth 100000 in
set_option maxHeartbeats 4000000 in
theorem do_good (A : RA) (R : Rl) (x : Ac) (q : Rs) (w : World) (hR : rcheckE R = 0) (hW : RlAt w A R) (ha : isH x.a) (hD : DeedOf R x q) :
    Calls Tryz.prog 9 #[rlV A R, acV x] w fun e w' => ∃ B : RA, e = .returned (.tuple #[rlV B (if q.e = 0 then q.r else zeroRl), .int .i64 (if q.e = 0 then q.o else 0), .int .i64 q.e]) ∧ Below w.heap.size w w' ∧ RlAt w' B (if q.e = 0 then q.r else zeroRl) ∧ (q.e = 0 → RlO w.heap.size w' B (if q.e = 0 then q.r else zeroRl)) := by
  have hl := (rcheck_parts hR).2.1
  have D0 : Hid (∀ W, RlAt W A R → Calls _ _ _ _ _) := fun W hW => rcheck_ans A R W (big_right hR) hW
  rw [hR] at D0
  have D1 : Hid (∀ W, Calls _ _ _ _ _) := fun W => isHand_any A R x.a W hl
  rw [show decide (isH x.a) = true from decide_eq_true ha] at D1
  have D2 : Hid (DeedOf R x q) := hD
  have D3 : Hid (∀ W, RlAt W A R → Calls _ _ _ _ _) := fun W hW => crealm_any A R W hR hW
  have I0 : Hid _ := doI_start w A R x hW
  have CIW : Hid (∀ (W V : World) (h g : Nat) (B : RA), CI W R h g B V → _) := fun W V h g B I => CI.wi I
  have RLO : Hid (∀ (V V' : World) (B : RA) (n d : Nat), RlF n d V B q.r → w.heap.size ≤ n → OffX (fun b => b < n ∨ b = d) V V' → RlO w.heap.size V' B q.r) := fun V V' B n d h1 h2 h3 => (h1.off h3).rlo h2
  clear hW ha hD hR hl
  obtain ⟨xk, xa, xb, xc, xn⟩ := x
  obtain ⟨a0, a1, a2, a3, c0, c1, c2, c3⟩ := A
  obtain ⟨qe, qr, qo⟩ := q
  dsimp only [rlV, acV, DeedOf] at *
  obtain ⟨RR, hRR⟩ : ∃ RR : Rl, (if qe = 0 then qr else zeroRl) = RR := ⟨_, rfl⟩
  have HRR : Hid (_ = RR) := hRR
  obtain ⟨OO, hOO⟩ : ∃ OO : Int, (if qe = 0 then qo else 0) = OO := ⟨_, rfl⟩
  have HOO : Hid (_ = OO) := hOO
  rw [hRR, hOO]
  clear hRR hOO
  go_enter Tryz.func9, Tryz.ntmps9
  go_wp2_with fail
  refine Calls.mono (D0.out _ I0.out.rl) ?_
  rintro e V1 ⟨rfl, hb⟩
  have I1 : Hid _ := I0.out.below hb
  clear hb D0 I0
  obtain ⟨r0, r1, r2, r3, rf, rl⟩ := box4_facts I1.out.r
  obtain ⟨z0, z1, z2, z3, zf, zl⟩ := box4_facts I1.out.z
  obtain ⟨y0, y1, y2, y3, y4, yl⟩ := box5D_facts I1.out.x
  go_wp2_with fail
  refine Calls.mono (D1.out _) ?_
  rintro e V2 ⟨rfl, hb⟩
  have I2 : Hid _ := I1.out.below hb
  clear r0 r1 r2 r3 rf rl z0 z1 z2 z3 zf zl y0 y1 y2 y3 y4 yl
  clear hb D1 I1
  obtain ⟨r0, r1, r2, r3, rf, rl⟩ := box4_facts I2.out.r
  obtain ⟨z0, z1, z2, z3, zf, zl⟩ := box4_facts I2.out.z
  obtain ⟨y0, y1, y2, y3, y4, yl⟩ := box5D_facts I2.out.x
  go_wp2_with fail
  refine Calls.mono (D2.out _) ?_
  rintro e V3 ⟨K, caps, rfl, hb, eg, hdd⟩
  have I3 : Hid _ := I2.out.below hb
  have ZL : Hid (w.heap.size + 1 + 1 < V3.heap.size) := box_lt I3.out.z
  have hnf : ∀ w : World, (binOp BinOp.eql 64 (Value.func (Fn.func K) #[] caps) Value.nilFunc).run Tryz.prog w = .ok (.bool false) w := fun _ => by kernel_rfl
  have HD : Hid (Deed K caps V3 R ⟨xk, xa, xb, xc, xn⟩ ⟨qe, qr, qo⟩) := hdd V3 (Below.refl _ _)
  clear r0 r1 r2 r3 rf rl z0 z1 z2 z3 zf zl y0 y1 y2 y3 y4 yl
  clear hb D2 I2 hdd
  obtain ⟨r0, r1, r2, r3, rf, rl⟩ := box4_facts I3.out.r
  obtain ⟨z0, z1, z2, z3, zf, zl⟩ := box4_facts I3.out.z
  obtain ⟨y0, y1, y2, y3, y4, yl⟩ := box5D_facts I3.out.x
  go_wp2_with fail
  refine Calls.mono (D3.out _ I3.out.rl) ?_
  rintro e V4 ⟨⟨b0, b1, b2, b3, d0, d1, d2, d3⟩, h, g, rfl, hci⟩
  have I4 : Hid _ := I3.out.below hci.bel
  have W4 : Hid _ := CIW.out _ _ _ _ _ hci
  clear r0 r1 r2 r3 rf rl z0 z1 z2 z3 zf zl y0 y1 y2 y3 y4 yl
  clear D3 hci CIW
  obtain ⟨r0, r1, r2, r3, rf, rl⟩ := box4_facts I4.out.r
  obtain ⟨z0, z1, z2, z3, zf, zl⟩ := box4_facts I4.out.z
  obtain ⟨y0, y1, y2, y3, y4, yl⟩ := box5D_facts I4.out.x
  go_wp2_with fail
  refine Calls.mono (HD.out _ _ _ _ _ W4.out) ?_
  rintro e V5 ⟨o, rfl, hb, hq⟩
  have I5 : Hid _ := I3.out.below hb
  clear r0 r1 r2 r3 rf rl z0 z1 z2 z3 zf zl y0 y1 y2 y3 y4 yl
  clear W4 I4 HD hb I3
  obtain ⟨r0, r1, r2, r3, rf, rl⟩ := box4_facts I5.out.r
  obtain ⟨z0, z1, z2, z3, zf, zl⟩ := box4_facts I5.out.z
  obtain ⟨y0, y1, y2, y3, y4, yl⟩ := box5D_facts I5.out.x
  by_cases hE : qe = 0
  · subst hE
    obtain rfl : qr = RR := (if_pos rfl).symm.trans HRR.out
    obtain rfl : qo = OO := (if_pos rfl).symm.trans HOO.out
    obtain ⟨rfl, ⟨e0, e1, e2, e3, f0, f1, f2, f3⟩, hbx, hrl⟩ := hq rfl
    dsimp only at hbx hrl
    have HRL : Hid _ := hrl
    obtain ⟨s0, s1, s2, s3, sf, sl⟩ := box4_facts hbx
    clear hbx hq hrl HRR HOO
    dsimp only at s0 s1 s2 s3
    go_wp2
    obtain ⟨X, hX⟩ : ∃ X, (((V5.setCell ⟨w.heap.size + 1 + 1, 0, none⟩ (.slice e0 qr.s.length f0)).setCell ⟨w.heap.size + 1 + 1, 1, none⟩ (.slice e1 qr.hs.length f1)).setCell ⟨w.heap.size + 1 + 1, 2, none⟩ (.slice e2 qr.i.length f2)).setCell ⟨w.heap.size + 1 + 1, 3, none⟩ (.slice e3 qr.t.length f3) = X := ⟨_, rfl⟩
    have x0 : X.heap[w.heap.size + 1 + 1]? = some (.cells #[.slice e0 qr.s.length f0, .slice e1 qr.hs.length f1, .slice e2 qr.i.length f2, .slice e3 qr.t.length f3] 31 (0, 0)) := by rw [← hX]; exact box4_set I5.out.z
    have xb : Below w.heap.size w X := by rw [← hX]; exact (((I5.out.bel.setCell (by simp; omega) _).setCell (by simp; omega) _).setCell (by simp; omega) _).setCell (by simp; omega) _
    have xr : RlO w.heap.size X ⟨e0, e1, e2, e3, f0, f1, f2, f3⟩ qr := by rw [← hX]; exact RLO.out V5 _ _ _ _ HRL.out (by have := ZL.out; omega) ((((OffX.set _ _ (Or.inl ZL.out)).trans (OffX.set _ _ (Or.inl ZL.out))).trans (OffX.set _ _ (Or.inl ZL.out))).trans (OffX.set _ _ (Or.inl ZL.out)))
    rw [hX]
    obtain ⟨m0, m1, m2, m3, mf, ml⟩ := box4_facts x0
    exact bodyPost_ret (v := .tuple #[.agg #[.slice e0 qr.s.length f0, .slice e1 qr.hs.length f1, .slice e2 qr.i.length f2, .slice e3 qr.t.length f3], .int .i64 o, .int .i64 0]) (by simp [results, Tryz.results9, go_sem, m0, m1, m2, m3]) rfl ⟨⟨e0, e1, e2, e3, f0, f1, f2, f3⟩, rfl, xb, xr.at, xr⟩
  · obtain rfl : zeroRl = RR := (if_neg hE).symm.trans HRR.out
    obtain rfl : (0 : Int) = OO := (if_neg hE).symm.trans HOO.out
    have hz : (qe == 0) = false := by simp [hE]
    clear hq HRR HOO
    dsimp only
    go_wp2
    obtain ⟨X, hX⟩ : ∃ X, (((V5.setCell ⟨w.heap.size + 1 + 1, 0, none⟩ (.slice none 0 0)).setCell ⟨w.heap.size + 1 + 1, 1, none⟩ (.slice none 0 0)).setCell ⟨w.heap.size + 1 + 1, 2, none⟩ (.slice none 0 0)).setCell ⟨w.heap.size + 1 + 1, 3, none⟩ (.slice none 0 0) = X := ⟨_, rfl⟩
    have x0 : X.heap[w.heap.size + 1 + 1]? = some (.cells #[.slice none 0 0, .slice none 0 0, .slice none 0 0, .slice none 0 0] 31 (0, 0)) := by rw [← hX]; exact box4_set I5.out.z
    have xb : Below w.heap.size w X := by rw [← hX]; exact (((I5.out.bel.setCell (by simp; omega) _).setCell (by simp; omega) _).setCell (by simp; omega) _).setCell (by simp; omega) _
    rw [hX]
    obtain ⟨m0, m1, m2, m3, mf, ml⟩ := box4_facts x0
    exact bodyPost_ret (v := .tuple #[.agg #[.slice none 0 0, .slice none 0 0, .slice none 0 0, .slice none 0 0], .int .i64 0, .int .i64 qe]) (by simp [results, Tryz.results9, go_sem, m0, m1, m2, m3]) rfl ⟨⟨none, none, none, none, 0, 0, 0, 0⟩, rfl, xb, rl_zero _ _⟩
end Go.Proofs.YtgjfmepbphfjoaaGreat

namespace Go.Proofs.YtgjfmepbphfjoaaGreat
open Go.RowKit Go.ChangeShapes Go.WideShapes
set_option linter.unusedVariables false

set_option maxRecDepth 100000 in
set_option maxHeartbeats 1000000 in
theorem findShown_any (S : List Nd) (h : Int × Int) (x : Ac) (wf : WF S) (a : Option Addr) (c : Nat) (W : World) (hW : NdsAt W a S) : Calls Tryz.prog 65 #[.agg #[.slice a S.length c], hdV h, acV x] W fun e w' => ∃ a' c' n, e = .returned (.tuple #[.slice a' n c', .int .i64 (findE S h.1 h.2)]) ∧ Below W.heap.size W w' ∧ (findE S h.1 h.2 = 0 → n = (flatF S h.1.toNat).length) := by
  have D : Hid (∀ o1 o2 o3 : Obj, _) := fun o1 o2 o3 => flat_ans S h wf a c (((W.alloc o1).alloc o2).alloc o3) (hW.below (three_below _ _ _ _))
  clear hW
  obtain ⟨P, U⟩ := h
  dsimp only [hdV, acV] at D ⊢
  obtain ⟨E, hE⟩ : ∃ E, findE S P U = E := ⟨_, rfl⟩
  rw [hE] at D ⊢
  obtain ⟨N, hN⟩ : ∃ N, (flatF S P.toNat).length = N := ⟨_, rfl⟩
  rw [hN] at D ⊢
  generalize S.length = ns at *
  clear hE hN
  go_enter Tryz.func65, Tryz.ntmps65
  go_wp2_with fail
  refine Calls.mono (D.out _ _ _) ?_
  rintro e V ⟨a', c', n, rfl, hb, hn⟩
  have HB : Hid (Below W.heap.size W V) := (three_below W _ _ _).trans (hb.mono (by simp; omega))
  have HN : Hid (E = 0 → n = N) := fun h => by rw [hn, if_pos h]
  clear hb hn D
  go_wp2
  exact bodyPost_ret (v := .tuple #[.slice a' n c', .int .i64 E]) (by simp [results, Tryz.results65, go_sem]) rfl ⟨a', c', n, rfl, HB.out, HN.out⟩
set_option maxRecDepth 100000 in
set_option maxHeartbeats 1000000 in
theorem findTagged_any (S : List Nd) (h : Int × Int) (x : Ac) (wf : WF S) (a : Option Addr) (c : Nat) (W : World) (hW : NdsAt W a S) : Calls Tryz.prog 64 #[.agg #[.slice a S.length c], hdV h, acV x] W fun e w' => ∃ a' c' n, e = .returned (.tuple #[.slice a' n c', .int .i64 (cntE S h.1 h.2 [⟨x.b, x.n, false⟩])]) ∧ Below W.heap.size W w' ∧ (cntE S h.1 h.2 [⟨x.b, x.n, false⟩] = 0 → n = (foundF S h.1.toNat [⟨x.b, x.n, false⟩]).length) := by
  have D : Hid (∀ o1 o2 o3 : Obj, _) := fun o1 o2 o3 => count_ans S h x.b x.n (some ⟨W.heap.size + 1 + 1 + 1, 0, none⟩) 1 wf a c ((((W.alloc o1).alloc o2).alloc o3).alloc (.cells #[.int .i64 x.b, .int .i64 x.n, .bool false] 86)) ((hW.below (three_below _ _ _ _)).below (one_belowS _ _)) (fun i hi => by
    obtain rfl : i = 0 := by simpa using hi
    have e : (((W.alloc o1).alloc o2).alloc o3).heap.size = W.heap.size + 1 + 1 + 1 := by simp
    refine ⟨W.heap.size + 1 + 1 + 1, 0, rfl, ?_, ?_, ?_⟩
    all_goals rw [← e]
    · exact alloc_cell _ _ _ 0 rfl
    · exact alloc_cell _ _ _ 1 rfl
    · exact alloc_cell _ _ _ 2 rfl)
  clear hW
  obtain ⟨P, U⟩ := h
  obtain ⟨xk, xa, xb, xc, xn⟩ := x
  dsimp only [hdV, acV] at D ⊢
  obtain ⟨E, hE⟩ : ∃ E, cntE S P U [⟨xb, xn, false⟩] = E := ⟨_, rfl⟩
  rw [hE] at D ⊢
  obtain ⟨N, hN⟩ : ∃ N, (foundF S P.toNat [⟨xb, xn, false⟩]).length = N := ⟨_, rfl⟩
  rw [hN] at D ⊢
  generalize S.length = ns at *
  clear hE hN
  go_enter Tryz.func64, Tryz.ntmps64
  go_wp2_with fail
  refine Calls.mono (D.out _ _ _) ?_
  rintro e V ⟨a', c', n, rfl, hb, hn⟩
  have HB : Hid (Below W.heap.size W V) := (three_below W _ _ _).trans (((one_belowS _ _).trans (hb.mono (by simp))).mono (by simp; omega))
  have HN : Hid (E = 0 → n = N) := fun h => by rw [hn, if_pos h]
  clear hb hn D
  go_wp2
  exact bodyPost_ret (v := .tuple #[.slice a' n c', .int .i64 E]) (by simp [results, Tryz.results64, go_sem]) rfl ⟨a', c', n, rfl, HB.out, HN.out⟩

set_option maxRecDepth 100000 in
theorem deedOf_2 (W : World) : Calls Tryz.prog 23 #[.int .i64 2] W fun e w' => ∃ cb, e = .returned (.func (.func 102) #[] #[.pointer (some ⟨cb, 0, none⟩)]) ∧ Below W.heap.size W w' ∧ w'.cell? ⟨cb, 0, none⟩ = some (.func (.func 57) #[] #[]) := by
  have D : Hid (∀ W, Calls _ _ _ _ _) := fun W => change_makes 57 W
  go_enter Tryz.func23, Tryz.ntmps23
  go_wp2_with fail
  refine Calls.mono (D.out _) ?_
  rintro e V ⟨rfl, hb, hc⟩
  have HB : Hid _ := hb
  have HC : Hid _ := hc
  clear hb hc D
  go_wp2
  go_ret
  exact ⟨_, rfl, HB.out, HC.out⟩
set_option maxRecDepth 100000 in
theorem deedOf_4 (W : World) : Calls Tryz.prog 23 #[.int .i64 4] W fun e w' => ∃ cb, e = .returned (.func (.func 102) #[] #[.pointer (some ⟨cb, 0, none⟩)]) ∧ Below W.heap.size W w' ∧ w'.cell? ⟨cb, 0, none⟩ = some (.func (.func 58) #[] #[]) := by
  have D : Hid (∀ W, Calls _ _ _ _ _) := fun W => change_makes 58 W
  go_enter Tryz.func23, Tryz.ntmps23
  go_wp2_with fail
  refine Calls.mono (D.out _) ?_
  rintro e V ⟨rfl, hb, hc⟩
  have HB : Hid _ := hb
  have HC : Hid _ := hc
  clear hb hc D
  go_wp2
  go_ret
  exact ⟨_, rfl, HB.out, HC.out⟩
set_option maxRecDepth 100000 in
theorem deedOf_5 (W : World) : Calls Tryz.prog 23 #[.int .i64 5] W fun e w' => ∃ cb, e = .returned (.func (.func 107) #[] #[.pointer (some ⟨cb, 0, none⟩)]) ∧ Below W.heap.size W w' ∧ w'.cell? ⟨cb, 0, none⟩ = some (.func (.func 61) #[] #[]) := by
  have D : Hid (∀ W, Calls _ _ _ _ _) := fun W => mark_makes 61 W
  go_enter Tryz.func23, Tryz.ntmps23
  go_wp2_with fail
  refine Calls.mono (D.out _) ?_
  rintro e V ⟨rfl, hb, hc⟩
  have HB : Hid _ := hb
  have HC : Hid _ := hc
  clear hb hc D
  go_wp2
  go_ret
  exact ⟨_, rfl, HB.out, HC.out⟩
set_option maxRecDepth 100000 in
theorem deedOf_11 (W : World) : Calls Tryz.prog 23 #[.int .i64 11] W fun e w' => ∃ cb, e = .returned (.func (.func 107) #[] #[.pointer (some ⟨cb, 0, none⟩)]) ∧ Below W.heap.size W w' ∧ w'.cell? ⟨cb, 0, none⟩ = some (.func (.func 62) #[] #[]) := by
  have D : Hid (∀ W, Calls _ _ _ _ _) := fun W => mark_makes 62 W
  go_enter Tryz.func23, Tryz.ntmps23
  go_wp2_with fail
  refine Calls.mono (D.out _) ?_
  rintro e V ⟨rfl, hb, hc⟩
  have HB : Hid _ := hb
  have HC : Hid _ := hc
  clear hb hc D
  go_wp2
  go_ret
  exact ⟨_, rfl, HB.out, HC.out⟩
set_option maxRecDepth 100000 in
theorem deedOf_14 (W : World) : Calls Tryz.prog 23 #[.int .i64 14] W fun e w' => ∃ cb, e = .returned (.func (.func 108) #[] #[.pointer (some ⟨cb, 0, none⟩)]) ∧ Below W.heap.size W w' ∧ w'.cell? ⟨cb, 0, none⟩ = some (.func (.func 64) #[] #[]) := by
  have D : Hid (∀ W, Calls _ _ _ _ _) := fun W => tellHowMany_makes 64 W
  go_enter Tryz.func23, Tryz.ntmps23
  go_wp2_with fail
  refine Calls.mono (D.out _) ?_
  rintro e V ⟨rfl, hb, hc⟩
  have HB : Hid _ := hb
  have HC : Hid _ := hc
  clear hb hc D
  go_wp2
  go_ret
  exact ⟨_, rfl, HB.out, HC.out⟩
set_option maxRecDepth 100000 in
theorem deedOf_15 (W : World) : Calls Tryz.prog 23 #[.int .i64 15] W fun e w' => ∃ cb, e = .returned (.func (.func 108) #[] #[.pointer (some ⟨cb, 0, none⟩)]) ∧ Below W.heap.size W w' ∧ w'.cell? ⟨cb, 0, none⟩ = some (.func (.func 65) #[] #[]) := by
  have D : Hid (∀ W, Calls _ _ _ _ _) := fun W => tellHowMany_makes 65 W
  go_enter Tryz.func23, Tryz.ntmps23
  go_wp2_with fail
  refine Calls.mono (D.out _) ?_
  rintro e V ⟨rfl, hb, hc⟩
  have HB : Hid _ := hb
  have HC : Hid _ := hc
  clear hb hc D
  go_wp2
  go_ret
  exact ⟨_, rfl, HB.out, HC.out⟩
set_option maxRecDepth 100000 in
theorem deedOf_3 (W : World) : Calls Tryz.prog 23 #[.int .i64 3] W fun e w' => ∃ cb, e = .returned (.func (.func 111) #[] #[.pointer (some ⟨cb, 0, none⟩)]) ∧ Below W.heap.size W w' ∧ w'.cell? ⟨cb, 0, none⟩ = some (.func (.func 67) #[] #[]) := by
  have D : Hid (∀ W, Calls _ _ _ _ _) := fun W => withHandB_makes 67 W
  go_enter Tryz.func23, Tryz.ntmps23
  go_wp2_with fail
  refine Calls.mono (D.out _) ?_
  rintro e V ⟨rfl, hb, hc⟩
  have HB : Hid _ := hb
  have HC : Hid _ := hc
  clear hb hc D
  go_wp2
  go_ret
  exact ⟨_, rfl, HB.out, HC.out⟩
set_option maxRecDepth 100000 in
theorem deedOf_7 (W : World) : Calls Tryz.prog 23 #[.int .i64 7] W fun e w' => ∃ cb, e = .returned (.func (.func 111) #[] #[.pointer (some ⟨cb, 0, none⟩)]) ∧ Below W.heap.size W w' ∧ w'.cell? ⟨cb, 0, none⟩ = some (.func (.func 68) #[] #[]) := by
  have D : Hid (∀ W, Calls _ _ _ _ _) := fun W => withHandB_makes 68 W
  go_enter Tryz.func23, Tryz.ntmps23
  go_wp2_with fail
  refine Calls.mono (D.out _) ?_
  rintro e V ⟨rfl, hb, hc⟩
  have HB : Hid _ := hb
  have HC : Hid _ := hc
  clear hb hc D
  go_wp2
  go_ret
  exact ⟨_, rfl, HB.out, HC.out⟩
set_option maxRecDepth 100000 in
theorem deedOf_8 (W : World) : Calls Tryz.prog 23 #[.int .i64 8] W fun e w' => ∃ cb, e = .returned (.func (.func 111) #[] #[.pointer (some ⟨cb, 0, none⟩)]) ∧ Below W.heap.size W w' ∧ w'.cell? ⟨cb, 0, none⟩ = some (.func (.func 69) #[] #[]) := by
  have D : Hid (∀ W, Calls _ _ _ _ _) := fun W => withHandB_makes 69 W
  go_enter Tryz.func23, Tryz.ntmps23
  go_wp2_with fail
  refine Calls.mono (D.out _) ?_
  rintro e V ⟨rfl, hb, hc⟩
  have HB : Hid _ := hb
  have HC : Hid _ := hc
  clear hb hc D
  go_wp2
  go_ret
  exact ⟨_, rfl, HB.out, HC.out⟩
set_option maxRecDepth 100000 in
theorem deedOf_1 (W : World) : Calls Tryz.prog 23 #[.int .i64 1] W fun e w' => e = .returned (.func (.func 55) #[] #[]) ∧ w' = W := by
  go_enter Tryz.func23, Tryz.ntmps23
  go_wp2
  go_ret
  exact ⟨rfl, rfl⟩
set_option maxRecDepth 100000 in
theorem deedOf_6 (W : World) : Calls Tryz.prog 23 #[.int .i64 6] W fun e w' => e = .returned (.func (.func 59) #[] #[]) ∧ w' = W := by
  go_enter Tryz.func23, Tryz.ntmps23
  go_wp2
  go_ret
  exact ⟨rfl, rfl⟩
set_option maxRecDepth 100000 in
theorem deedOf_no (k : Int) (W : World) (h : k ≠ 1 ∧ k ≠ 2 ∧ k ≠ 4 ∧ k ≠ 6 ∧ k ≠ 5 ∧ k ≠ 11 ∧ k ≠ 14 ∧ k ≠ 15 ∧ k ≠ 3 ∧ k ≠ 7 ∧ k ≠ 8) : Calls Tryz.prog 23 #[.int .i64 k] W fun e w' => e = .returned .nilFunc ∧ w' = W := by
  obtain ⟨h1, h2, h4, h6, h5, h11, h14, h15, h3, h7, h8⟩ := h
  have b1 : (k == 1) = false := by simp [h1]
  have b2 : (k == 2) = false := by simp [h2]
  have b4 : (k == 4) = false := by simp [h4]
  have b6 : (k == 6) = false := by simp [h6]
  have b5 : (k == 5) = false := by simp [h5]
  have b11 : (k == 11) = false := by simp [h11]
  have b14 : (k == 14) = false := by simp [h14]
  have b15 : (k == 15) = false := by simp [h15]
  have b3 : (k == 3) = false := by simp [h3]
  have b7 : (k == 7) = false := by simp [h7]
  have b8 : (k == 8) = false := by simp [h8]
  clear h1 h2 h4 h6 h5 h11 h14 h15 h3 h7 h8
  go_enter Tryz.func23, Tryz.ntmps23
  go_wp2
  go_ret
  exact ⟨rfl, rfl⟩
end Go.Proofs.YtgjfmepbphfjoaaGreat
