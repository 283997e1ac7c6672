/-
  What is asked of a deed; those that make another store by hand A's node.
-/
import Derived.Test.YtfaaijoneaompaaGreatJMwMxDwb
import Derived.Test.YtfaaijoneaompaaGreatJDnDgRaRbWeRc
import Derived.Deep.RegionHeld3
import Derived.Deep.DeepCutAuto
import Derived.Test.YtfaaijoneaompaaGreatJDwc
namespace Go.Proofs.YtfaaijoneaompaaGreat
open Go.RowKit Go.ChangeShapes Go.WideShapes
set_option linter.unusedVariables false

/-- A deed: what it answers, and what it leaves in the realm's box. -/
def Deed (K : Nat) (caps : Array Value) (w : World) (R : Rl) (x : Ac) (q : Rs) : Prop := ∀ (d h g : Nat) (A : RA) (V : World), WI w R d h g A V →
  Calls Tryz.prog K (#[.pointer (some ⟨d, 0, none⟩), acV x] ++ caps) V fun e V' => ∃ o : Int, e = .returned (.tuple #[.int .i64 o, .int .i64 q.e]) ∧ Below w.heap.size w V' ∧ (q.e = 0 → o = q.o ∧ ∃ B : RA, V'.heap[d]? = some (bxR B q.r) ∧ RlAt V' B q.r)
theorem ans_e (E : Int) (Q : Rl) (o : Int) : (ans E Q o).e = E := by
  unfold ans
  by_cases h : E = 0
  · rw [if_pos h]; exact h.symm
  · rw [if_neg h]
theorem ans_0 {E : Int} (h : E = 0) (Q : Rl) (o : Int) : ans E Q o = ⟨0, Q, o⟩ := if_pos h
theorem WI.slb {w V : World} {R : Rl} {d h g : Nat} {A : RA} (I : WI w R d h g A V) : SlB V d := sl_box I.box ⟨_, _, _, rfl⟩ ⟨_, _, _, rfl⟩ ⟨_, _, _, rfl⟩ ⟨_, _, _, rfl⟩
/-- As it was. -/
theorem WI.rl {w V : World} {R : Rl} {d h g : Nat} {A : RA} (I : WI w R d h g A V) : RlAt V A R := ⟨by rw [I.a0]; exact I.nds, by rw [I.a1]; exact hands_row I.row, I.cls.at, I.tld.at⟩
/-- Another store. -/
theorem WI.store {w V : World} {R : Rl} {d h g : Nat} {A : RA} (I : WI w R d h g A V) {a : Option Addr} {T : List Nd} (c : Nat) (hn : NdsAt V a T) :
    Below w.heap.size w (V.setCell ⟨d, 0, none⟩ (.slice a T.length c)) ∧ (V.setCell ⟨d, 0, none⟩ (.slice a T.length c)).heap[d]? = some (bxR ⟨a, A.a1, A.a2, A.a3, c, A.c1, A.c2, A.c3⟩ ⟨T, R.hs, R.i, R.t⟩) ∧ RlAt (V.setCell ⟨d, 0, none⟩ (.slice a T.length c)) ⟨a, A.a1, A.a2, A.a3, c, A.c1, A.c2, A.c3⟩ ⟨T, R.hs, R.i, R.t⟩ := by
  have ho : OffB d V (V.setCell ⟨d, 0, none⟩ (.slice a T.length c)) := (OffB.refl _ _).set
  have hr := I.rl
  exact ⟨I.bel.setCell I.d0 _, boxN_set I.box, hn.offB I.slb ho, hr.2.1.offB I.slb ho, hr.2.2.1.offB I.slb ho, hr.2.2.2.offB I.slb ho⟩

/-- A hand set in row h. -/
theorem row_hand {V : World} {h : Nat} {hs : List (Int × Int)} (hr : V.rowIs h 45 (hs.length * 2) (hcF hs)) {k : Nat} (hk : k < hs.length) (y : Int × Int) : ((V.setCell ⟨h, k * 2, none⟩ (.int .i64 y.1)).setCell ⟨h, k * 2 + 1, none⟩ (.int .i64 y.2)).rowIs h 45 ((hs.set k y).length * 2) (hcF (hs.set k y)) := by
  rw [List.length_set, ← hcF_set hs k y hk]
  exact (hr.set (k * 2) _).set (k * 2 + 1) _
theorem off_hand {X : Nat → Prop} {h : Nat} (V : World) (hx : X h) (o o' : Nat) (u v : Value) : OffX X V ((V.setCell ⟨h, o, none⟩ u).setCell ⟨h, o', none⟩ v) := (OffX.set V u hx).trans (OffX.set _ v hx)
/-- Another hand. -/
theorem WI.setHand {w V : World} {R : Rl} {d h g : Nat} {A : RA} (I : WI w R d h g A V) {k : Nat} (hk : k < R.hs.length) (y : Int × Int) {V' : World} (hV : V' = (V.setCell ⟨h, k * 2, none⟩ (.int .i64 y.1)).setCell ⟨h, k * 2 + 1, none⟩ (.int .i64 y.2)) :
    Below w.heap.size w V' ∧ V'.heap[d]? = some (bxR A ⟨R.s, R.hs.set k y, R.i, R.t⟩) ∧ RlAt V' A ⟨R.s, R.hs.set k y, R.i, R.t⟩ := by
  subst hV
  have h1 := row_hand I.row hk y
  have hb := I.box
  refine ⟨(I.bel.setCell I.h0 _).setCell I.h0 _, ?_, by rw [I.a0]; exact I.sto _ (off_hand V (Or.inr rfl) _ _ _ _), by rw [I.a1]; exact hands_row h1, I.cls _ (off_hand V (Or.inr (Or.inl rfl)) _ _ _ _), I.tld _ (off_hand V (Or.inr (Or.inl rfl)) _ _ _ _)⟩
  rw [Below.heap_setCell _ _ _ _ (Ne.symm I.dh), Below.heap_setCell _ _ _ _ (Ne.symm I.dh), hb]
  dsimp only [bxR]
  rw [List.length_set]
/-- Another store, and another hand. -/
theorem WI.storeHand {w V : World} {R : Rl} {d h g : Nat} {A : RA} (I : WI w R d h g A V) {a : Option Addr} {T : List Nd} (c : Nat) {N : Nat} (hn : St (fun b => b < N) (fun V => NdsAt V a T) V) (hd : d < N) (hh : h < N) {k : Nat} (hk : k < R.hs.length) (y : Int × Int) {V' : World} (hV : V' = ((V.setCell ⟨d, 0, none⟩ (.slice a T.length c)).setCell ⟨h, k * 2, none⟩ (.int .i64 y.1)).setCell ⟨h, k * 2 + 1, none⟩ (.int .i64 y.2)) :
    Below w.heap.size w V' ∧ V'.heap[d]? = some (bxR ⟨a, A.a1, A.a2, A.a3, c, A.c1, A.c2, A.c3⟩ ⟨T, R.hs.set k y, R.i, R.t⟩) ∧ RlAt V' ⟨a, A.a1, A.a2, A.a3, c, A.c1, A.c2, A.c3⟩ ⟨T, R.hs.set k y, R.i, R.t⟩ := by
  subst hV
  obtain ⟨b1, x1, _⟩ := I.store c hn.at
  have h1 := row_hand (I.row.setOther (a := ⟨d, 0, none⟩) I.dh (.slice a T.length c)) hk y
  have o1 : ∀ X : Nat → Prop, X d → OffX X V (V.setCell ⟨d, 0, none⟩ (.slice a T.length c)) := fun X hx => OffX.set V _ hx
  refine ⟨(b1.setCell I.h0 _).setCell I.h0 _, ?_, hn _ ((o1 _ hd).trans (off_hand (X := fun b => b < N) _ hh _ _ _ _)), ?_, I.cls _ ((o1 _ (Or.inl rfl)).trans (off_hand _ (Or.inr (Or.inl rfl)) _ _ _ _)), I.tld _ ((o1 _ (Or.inl rfl)).trans (off_hand _ (Or.inr (Or.inl rfl)) _ _ _ _))⟩
  · rw [Below.heap_setCell _ _ _ _ (Ne.symm I.dh), Below.heap_setCell _ _ _ _ (Ne.symm I.dh), x1]
    dsimp only [bxR]
    rw [List.length_set]
  · show HandsAt _ A.a1 _
    rw [I.a1]
    exact hands_row h1
/-- Another mark. -/
theorem WI.setMark {w V : World} {R : Rl} {d h g : Nat} {A : RA} (I : WI w R d h g A V) {k : Nat} (hk : k < R.s.length) (n : Int) {V' : World} (hV : V' = V.setCell ⟨g, k * 8 + 3, none⟩ (.int .i64 n)) :
    Below w.heap.size w V' ∧ V'.heap[d]? = some (bxR A ⟨R.s.set k { nd R.s k with m := n }, R.hs, R.i, R.t⟩) ∧ RlAt V' A ⟨R.s.set k { nd R.s k with m := n }, R.hs, R.i, R.t⟩ := by
  subst hV
  refine ⟨I.bel.setCell I.g0 _, ?_, by rw [I.a0]; exact (I.own.mark hk n).nds, by rw [I.a1]; exact hands_row (I.row.setOther (a := ⟨g, k * 8 + 3, none⟩) I.hg _), I.cls _ (OffX.set V _ (Or.inr (Or.inr rfl))), I.tld _ (OffX.set V _ (Or.inr (Or.inr rfl)))⟩
  rw [Below.heap_setCell _ _ _ _ (Ne.symm I.gd), I.box]
  dsimp only [bxR]
  rw [List.length_set]

/-- Behind a call whose answer goes into a box of its own: the box made behind it, or ahead of it. -/
theorem relA {V V1 w3 : World} {a : Option Addr} {T : List Nd} (c t : Nat) (bv : Below V.heap.size V V1) (b3 : Below V1.heap.size V1 w3) (n3 : NdsAt w3 a T) :
    Hid (Below V.heap.size V (w3.alloc (.cells #[.slice a T.length c] t))) ∧ Hid (NdsAt (w3.alloc (.cells #[.slice a T.length c] t)) a T) ∧ (w3.alloc (.cells #[.slice a T.length c] t)).cell? ⟨w3.heap.size, 0, none⟩ = some (.slice a T.length c) ∧ V.heap.size ≤ w3.heap.size := by
  have b := bv.trans (b3.mono bv.size)
  exact ⟨b.trans ((one_belowS _ _).mono b.size), n3.below (one_belowS _ _), alloc_cell _ _ _ 0 rfl, b.size⟩
theorem relB {V V1 w3 : World} {a : Option Addr} {T : List Nd} (c : Nat) {t : Nat} (bv : Below V.heap.size V V1) (b3 : Below V1.heap.size V1 w3) (n3 : NdsAt w3 a T) (x3 : w3.heap[V1.heap.size]? = some (.cells #[.slice none 0 0] t (0, 0))) :
    Hid (Below V.heap.size V (w3.setCell ⟨V1.heap.size, 0, none⟩ (.slice a T.length c))) ∧ Hid (NdsAt (w3.setCell ⟨V1.heap.size, 0, none⟩ (.slice a T.length c)) a T) ∧ (w3.setCell ⟨V1.heap.size, 0, none⟩ (.slice a T.length c)).cell? ⟨V1.heap.size, 0, none⟩ = some (.slice a T.length c) ∧ V.heap.size ≤ V1.heap.size := by
  have b := bv.trans (b3.mono bv.size)
  refine ⟨b.setCell bv.size _, n3.offB (b := V1.heap.size) (fun j v hv => ?_) (OffB.refl _ _).set, box_cell (boxN_set (i := 0) x3), bv.size⟩
  unfold World.cell? at hv
  dsimp only at hv
  rw [x3] at hv
  match j with
  | 0 => simp at hv; exact ⟨_, _, _, hv.symm⟩
  | j + 1 => simp at hv

set_option maxRecDepth 100000 in
set_option maxHeartbeats 4000000 in
theorem change_any (F : Nat) (eg : ∀ args w, (callFunc F args).run Tryz.prog w = .ok (.enter F args) w) (cb : Nat) (w : World) (hc : w.cell? ⟨cb, 0, none⟩ = some (.func (.func F) #[] #[])) (R : Rl) (x : Ac) (hl : R.hs.length = 16) (ha : isH x.a) (T : List Nd) (E : Int) (hF : StoErrD F R.s (rS E T) #[hdV (hd R x.a)] E) :
    Deed 47 #[.pointer (some ⟨cb, 0, none⟩)] w R x (ans E ⟨T, R.hs, R.i, R.t⟩ 0) := fun d h g A V I => by
  rw [ans_e]
  obtain ⟨a0, a1, a2, a3, c0, c1, c2, c3⟩ := A
  obtain rfl : a0 = some ⟨g, 0, none⟩ := I.a0
  obtain rfl : a1 = some ⟨h, 0, none⟩ := I.a1
  obtain ⟨xk, xa, xb, xc, xn⟩ := x
  obtain ⟨p, hp, hp16⟩ := natH ha
  dsimp only at hp
  subst hp
  obtain ⟨u0, u1⟩ := I.hand (k := p) (by omega)
  have II : Hid (WI w R d h g _ V) := I
  have D : Hid (∀ W, Below V.heap.size V W → Calls Tryz.prog F #[.agg #[.slice (some ⟨g, 0, none⟩) R.s.length c0], .agg #[.int .i64 (hd R (p : Int)).1, .int .i64 (hd R (p : Int)).2]] W fun e w' => ∃ a' c', e = .returned (.tuple #[.agg #[.slice a' (rS E T).length c'], .int .i64 E]) ∧ Below W.heap.size W w' ∧ NdsAt w' a' (rS E T)) := fun W hW => hF (some ⟨g, 0, none⟩) c0 W (I.nds.below hW)
  have k0 := (I.bel.cell (World.block_lt_of_cell? _ _ hc)).trans hc
  obtain ⟨l0, l1, l2, l3, fz, lt⟩ := box4_facts I.box
  dsimp only at l0 l1 l2 l3
  rw [hl] at l1
  clear hF
  generalize hd R (p : Int) = hh at *
  obtain ⟨P, U⟩ := hh
  have hdl : d < V.heap.size := lt
  have hhl : h < V.heap.size := World.block_lt_of_cell? _ _ u0
  have hcl : cb < V.heap.size := World.block_lt_of_cell? _ _ k0
  show Calls Tryz.prog _ #[.pointer (some ⟨d, 0, none⟩), .agg #[.int .i64 xk, .int .i64 p, .int .i64 xb, .int .i64 xc, .int .i64 xn], .pointer (some ⟨cb, 0, none⟩)] V _
  clear hl ha I hc
  obtain ⟨ns, hns⟩ : ∃ n, R.s.length = n := ⟨_, rfl⟩
  rw [hns] at D l0
  have hp2 : (p : Int) < 16 := by omega
  go_enter Tryz.func47, Tryz.ntmps47
  go_upto_region 1 with fail
  obtain ⟨V1, hV1⟩ : ∃ V1, V.alloc (.cells #[.int .i64 xk, .int .i64 p, .int .i64 xb, .int .i64 xc, .int .i64 xn] 33) = V1 := ⟨_, rfl⟩
  have BV : Hid (Below V.heap.size V V1) := by rw [← hV1]; exact one_belowS _ _
  have y1 : V1.cell? ⟨V.heap.size, 1, none⟩ = some (.int .i64 p) := by rw [← hV1]; exact alloc_cell _ _ _ 1 rfl
  have sV : V.heap.size < V1.heap.size := World.block_lt_of_cell? _ _ y1
  rw [hV1]
  clear hV1
  replace u0 := keepC u0 BV.out
  replace u1 := keepC u1 BV.out
  replace l0 := keepC l0 BV.out
  replace l1 := keepC l1 BV.out
  replace k0 := keepC k0 BV.out
  have hdv : d < V.heap.size := lt
  have n1 : ¬ V1.heap.size = cb := by omega
  have n2 : ¬ V1.heap.size = d := by omega
  have n3 : ¬ V1.heap.size = h := by omega
  have n4 : ¬ V1.heap.size = V.heap.size := by omega
  have n1' : ¬ cb = V1.heap.size := by omega
  have n2' : ¬ d = V1.heap.size := by omega
  have n3' : ¬ h = V1.heap.size := by omega
  have n4' : ¬ V.heap.size = V1.heap.size := by omega
  replace hdl : d < V1.heap.size := by omega
  replace hhl : h < V1.heap.size := by omega
  replace hcl : cb < V1.heap.size := by omega
  clear l2 l3 fz lt
  go_cut [7, 8] (fun s7 s8 wx => ∃ (b : Nat) (a' : Option Addr) (c' : Nat), s7 = .pointer (some ⟨b, 0, none⟩) ∧ s8 = .int .i64 E ∧ Hid (Below V.heap.size V wx) ∧ Hid (NdsAt wx a' (rS E T)) ∧ wx.cell? ⟨b, 0, none⟩ = some (.slice a' (rS E T).length c') ∧ V.heap.size ≤ b)
  case first =>
    go_region_held3 (fun w'' => w''.cell? ⟨cb, 0, none⟩ = some (.func (.func F) #[] #[]) ∧ w''.cell? ⟨d, 0, none⟩ = some (.slice (some ⟨g, 0, none⟩) ns c0) ∧ w''.cell? ⟨d, 1, none⟩ = some (.slice (some ⟨h, 0, none⟩) 16 c1) ∧ w''.cell? ⟨h, p * 2, none⟩ = some (.int .i64 P) ∧ w''.cell? ⟨h, p * 2 + 1, none⟩ = some (.int .i64 U) ∧ w''.cell? ⟨V.heap.size, 1, none⟩ = some (.int .i64 p)) (go_keep) (first | (refine Calls.mono (D.out V1.drew BV.out.drew) ?_; rintro e w3 ⟨a', c', rfl, hb3, hn3⟩; have B3 : Hid (Below V1.heap.size V1 w3) := (Below.refl _ _).drew.trans hb3; have N3 : Hid (NdsAt w3 a' (rS E T)) := hn3; have g0 := keepC k0 B3.out; have g1 := keepC l0 B3.out; have g2 := keepC l1 B3.out; have g3 := keepC u0 B3.out; have g4 := keepC u1 B3.out; have g5 := keepC y1 B3.out; clear hb3 hn3) | (refine Calls.mono (D.out (V1.alloc (.cells #[.slice none 0 0] 24)).drew (BV.out.trans ((one_belowS V1 _).mono BV.out.size)).drew) ?_; rintro e w3 ⟨a', c', rfl, hb3, hn3⟩; have B3 : Hid (Below V1.heap.size V1 w3) := (one_belowS V1 _).drew.trans (hb3.mono (by simp)); have N3 : Hid (NdsAt w3 a' (rS E T)) := hn3; have g0 := keepC k0 B3.out; have g1 := keepC l0 B3.out; have g2 := keepC l1 B3.out; have g3 := keepC u0 B3.out; have g4 := keepC u1 B3.out; have g5 := keepC y1 B3.out; have X3 : Hid (w3.heap[V1.heap.size]? = some (.cells #[.slice none 0 0] 24 (0, 0))) := keepB (W := (V1.alloc (.cells #[.slice none 0 0] 24)).drew) (heap_alloc_new V1 _) hb3; have x3 := box_cell X3.out; have xf := box_frozen (o := 0) X3.out; have xl : V1.heap.size < w3.heap.size := box_lt X3.out; clear hb3 hn3))
    · go_wp2_with fail
      go_meet
      case rel => exact ⟨_, _, _, rfl, rfl, relA _ _ BV.out B3.out N3.out⟩
    · go_wp2_with fail
      go_meet
      case rel => exact ⟨_, _, _, rfl, rfl, relB _ BV.out B3.out N3.out X3.out⟩
  case rest =>
    obtain ⟨b, a', c', rfl, rfl, HB, HN, hcell, hbl⟩ := hcut
    have I2 : Hid _ := II.out.below HB.out
    have hS := I2.out.store c' HN.out
    have HS : Hid _ := hS
    obtain ⟨m0, m1, m2, m3, mf, ml⟩ := box4_facts I2.out.box
    have bl : b < wc.heap.size := World.block_lt_of_cell? _ _ hcell
    have nbd : ¬ b = d := by omega
    clear hS II D u0 u1 l0 l1 k0 y1
    go_wp2
    refine bodyPost_ret (v := .tuple #[.int .i64 0, .int .i64 E]) (by simp [results, Tryz.results47, go_sem]) rfl ⟨0, rfl, HS.out.1, fun hE => ?_⟩
    rw [ans_0 hE]
    have h2 := HS.out.2
    rw [hE, rS_ok] at h2
    rw [hE, rS_ok]
    exact ⟨rfl, _, h2⟩
end Go.Proofs.YtfaaijoneaompaaGreat

namespace Go.Proofs.YtfaaijoneaompaaGreat
open Go.RowKit Go.ChangeShapes Go.WideShapes
set_option linter.unusedVariables false

/-- What deedOf answers for an act that there is. -/
def DeedOf (R : Rl) (x : Ac) (q : Rs) : Prop := ∀ W : World, Calls Tryz.prog 12 #[.int .i64 x.k] W fun e w' => ∃ (K : Nat) (caps : Array Value), e = .returned (.func (.func K) #[] caps) ∧ Below W.heap.size W w' ∧ (∀ args w, (callFunc K args).run Tryz.prog w = .ok (.enter K args) w) ∧ ∀ w0, Below w'.heap.size w' w0 → Deed K caps w0 R x q
theorem zbox_facts {w W : World} {o1 o2 : Obj} {t : Nat} {v0 v1 v2 v3 : Value} (hb : Below (w.heap.size + 1 + 1 + 1) (((w.alloc o1).alloc o2).alloc (.cells #[v0, v1, v2, v3] t)) W) : W.heap[w.heap.size + 1 + 1]? = some (.cells #[v0, v1, v2, v3] t (0, 0)) := by
  have h := box4_new ((w.alloc o1).alloc o2) t v0 v1 v2 v3
  simp only [World.size_alloc] at h
  exact (hb.block _ (Nat.lt_succ_self _)).trans h
theorem box5D_facts {W : World} {b t : Nat} {v0 v1 v2 v3 v4 : Value} (h : W.heap[b]? = some (.cells #[v0, v1, v2, v3, v4] t (0, 0))) : W.cell? ⟨b, 0, none⟩ = some v0 ∧ W.cell? ⟨b, 1, none⟩ = some v1 ∧ W.cell? ⟨b, 2, none⟩ = some v2 ∧ W.cell? ⟨b, 3, none⟩ = some v3 ∧ W.cell? ⟨b, 4, none⟩ = some v4 ∧ b < W.heap.size :=
  ⟨by simp [World.cell?, h], by simp [World.cell?, h], by simp [World.cell?, h], by simp [World.cell?, h], by simp [World.cell?, h], box_lt h⟩
/-- The boxes that Do makes. -/
structure DoI (w : World) (A : RA) (R : Rl) (x : Ac) (V : World) : Prop where
  bel : Below w.heap.size w V
  r : V.heap[w.heap.size]? = some (bxR A R)
  x : V.heap[w.heap.size + 1]? = some (.cells #[.int .i64 x.k, .int .i64 x.a, .int .i64 x.b, .int .i64 x.c, .int .i64 x.n] 33 (0, 0))
  z : V.heap[w.heap.size + 1 + 1]? = some (.cells #[.slice none 0 0, .slice none 0 0, .slice none 0 0, .slice none 0 0] 31 (0, 0))
  rl : RlAt V A R
theorem DoI.below {w V V' : World} {A : RA} {R : Rl} {x : Ac} (I : DoI w A R x V) (hb : Below V.heap.size V V') : DoI w A R x V' := ⟨I.bel.trans (hb.mono I.bel.size), keepB I.r hb, keepB I.x hb, keepB I.z hb, I.rl.below hb⟩
theorem doI_start (w : World) (A : RA) (R : Rl) (x : Ac) (h : RlAt w A R) : DoI w A R x (((w.alloc (.cells #[.slice A.a0 R.s.length A.c0, .slice A.a1 R.hs.length A.c1, .slice A.a2 R.i.length A.c2, .slice A.a3 R.t.length A.c3] 31)).alloc (.cells #[.int .i64 x.k, .int .i64 x.a, .int .i64 x.b, .int .i64 x.c, .int .i64 x.n] 33)).alloc (.cells #[.slice none 0 0, .slice none 0 0, .slice none 0 0, .slice none 0 0] 31)) := by
  have b1 := one_belowS w (.cells #[.slice A.a0 R.s.length A.c0, .slice A.a1 R.hs.length A.c1, .slice A.a2 R.i.length A.c2, .slice A.a3 R.t.length A.c3] 31)
  obtain ⟨w1, h1⟩ : ∃ w1, w.alloc (.cells #[.slice A.a0 R.s.length A.c0, .slice A.a1 R.hs.length A.c1, .slice A.a2 R.i.length A.c2, .slice A.a3 R.t.length A.c3] 31) = w1 := ⟨_, rfl⟩
  have n1 := box4_new w 31 (.slice A.a0 R.s.length A.c0) (.slice A.a1 R.hs.length A.c1) (.slice A.a2 R.i.length A.c2) (.slice A.a3 R.t.length A.c3)
  have s1 : w1.heap.size = w.heap.size + 1 := by rw [← h1]; simp
  rw [h1] at b1 n1 ⊢
  have b2 := one_belowS w1 (.cells #[.int .i64 x.k, .int .i64 x.a, .int .i64 x.b, .int .i64 x.c, .int .i64 x.n] 33)
  have n2 := heap_alloc_new w1 (.cells #[.int .i64 x.k, .int .i64 x.a, .int .i64 x.b, .int .i64 x.c, .int .i64 x.n] 33)
  obtain ⟨w2, h2⟩ : ∃ w2, w1.alloc (.cells #[.int .i64 x.k, .int .i64 x.a, .int .i64 x.b, .int .i64 x.c, .int .i64 x.n] 33) = w2 := ⟨_, rfl⟩
  have s2 : w2.heap.size = w1.heap.size + 1 := by rw [← h2]; simp
  rw [h2] at b2 n2 ⊢
  have b3 := one_belowS w2 (.cells #[.slice none 0 0, .slice none 0 0, .slice none 0 0, .slice none 0 0] 31)
  have n3 := box4_new w2 31 (.slice none 0 0) (.slice none 0 0) (.slice none 0 0) (.slice none 0 0)
  rw [s2, s1] at n3
  rw [s1] at n2
  exact ⟨b1.trans ((b2.trans (b3.mono b2.size)).mono b1.size), keepB (keepB n1 b2) b3, keepB n2 b3, n3, ((h.below b1).below b2).below b3⟩

set_option maxRecDepth 100000 in
set_option maxHeartbeats 4000000 in
theorem do_good (A : RA) (R : Rl) (x : Ac) (q : Rs) (w : World) (hR : rcheckE R = 0) (hW : RlAt w A R) (ha : isH x.a) (hD : DeedOf R x q) :
    Calls Tryz.prog 4 #[rlV A R, acV x] w fun e w' => ∃ B : RA, e = .returned (.tuple #[rlV B (if q.e = 0 then q.r else zeroRl), .int .i64 (if q.e = 0 then q.o else 0), .int .i64 q.e]) ∧ Below w.heap.size w w' ∧ RlAt w' B (if q.e = 0 then q.r else zeroRl) := by
  have hl := (rcheck_parts hR).2.1
  have D0 : Hid (∀ W, RlAt W A R → Calls _ _ _ _ _) := fun W hW => rcheck_ans A R W (big_right hR) hW
  rw [hR] at D0
  have D1 : Hid (∀ W, Calls _ _ _ _ _) := fun W => isHand_any A R x.a W hl
  rw [show decide (isH x.a) = true from decide_eq_true ha] at D1
  have D2 : Hid (DeedOf R x q) := hD
  have D3 : Hid (∀ W, RlAt W A R → Calls _ _ _ _ _) := fun W hW => crealm_any A R W hR hW
  have I0 : Hid _ := doI_start w A R x hW
  have CIW : Hid (∀ (W V : World) (h g : Nat) (B : RA), CI W R h g B V → _) := fun W V h g B I => CI.wi I
  have RLO : Hid (∀ (V : World) (B : RA) (b : Nat), RlAt V B q.r → SlB V b → ∀ V', OffB b V V' → RlAt V' B q.r) := fun V B b h1 h2 V' h3 => h1.offB h2 h3
  clear hW ha hD hR hl
  obtain ⟨xk, xa, xb, xc, xn⟩ := x
  obtain ⟨a0, a1, a2, a3, c0, c1, c2, c3⟩ := A
  obtain ⟨qe, qr, qo⟩ := q
  dsimp only [rlV, acV, DeedOf] at *
  obtain ⟨RR, hRR⟩ : ∃ RR : Rl, (if qe = 0 then qr else zeroRl) = RR := ⟨_, rfl⟩
  have HRR : Hid (_ = RR) := hRR
  obtain ⟨OO, hOO⟩ : ∃ OO : Int, (if qe = 0 then qo else 0) = OO := ⟨_, rfl⟩
  have HOO : Hid (_ = OO) := hOO
  rw [hRR, hOO]
  clear hRR hOO
  go_enter Tryz.func4, Tryz.ntmps4
  go_wp2_with fail
  refine Calls.mono (D0.out _ I0.out.rl) ?_
  rintro e V1 ⟨rfl, hb⟩
  have I1 : Hid _ := I0.out.below hb
  clear hb D0 I0
  obtain ⟨r0, r1, r2, r3, rf, rl⟩ := box4_facts I1.out.r
  obtain ⟨z0, z1, z2, z3, zf, zl⟩ := box4_facts I1.out.z
  obtain ⟨y0, y1, y2, y3, y4, yl⟩ := box5D_facts I1.out.x
  go_wp2_with fail
  refine Calls.mono (D1.out _) ?_
  rintro e V2 ⟨rfl, hb⟩
  have I2 : Hid _ := I1.out.below hb
  clear r0 r1 r2 r3 rf rl z0 z1 z2 z3 zf zl y0 y1 y2 y3 y4 yl
  clear hb D1 I1
  obtain ⟨r0, r1, r2, r3, rf, rl⟩ := box4_facts I2.out.r
  obtain ⟨z0, z1, z2, z3, zf, zl⟩ := box4_facts I2.out.z
  obtain ⟨y0, y1, y2, y3, y4, yl⟩ := box5D_facts I2.out.x
  go_wp2_with fail
  refine Calls.mono (D2.out _) ?_
  rintro e V3 ⟨K, caps, rfl, hb, eg, hdd⟩
  have I3 : Hid _ := I2.out.below hb
  have hnf : ∀ w : World, (binOp BinOp.eql 50 (Value.func (Fn.func K) #[] caps) Value.nilFunc).run Tryz.prog w = .ok (.bool false) w := fun _ => by kernel_rfl
  have HD : Hid (Deed K caps V3 R ⟨xk, xa, xb, xc, xn⟩ ⟨qe, qr, qo⟩) := hdd V3 (Below.refl _ _)
  clear r0 r1 r2 r3 rf rl z0 z1 z2 z3 zf zl y0 y1 y2 y3 y4 yl
  clear hb D2 I2 hdd
  obtain ⟨r0, r1, r2, r3, rf, rl⟩ := box4_facts I3.out.r
  obtain ⟨z0, z1, z2, z3, zf, zl⟩ := box4_facts I3.out.z
  obtain ⟨y0, y1, y2, y3, y4, yl⟩ := box5D_facts I3.out.x
  go_wp2_with fail
  refine Calls.mono (D3.out _ I3.out.rl) ?_
  rintro e V4 ⟨⟨b0, b1, b2, b3, d0, d1, d2, d3⟩, h, g, rfl, hci⟩
  have I4 : Hid _ := I3.out.below hci.bel
  have W4 : Hid _ := CIW.out _ _ _ _ _ hci
  clear r0 r1 r2 r3 rf rl z0 z1 z2 z3 zf zl y0 y1 y2 y3 y4 yl
  clear D3 hci CIW
  obtain ⟨r0, r1, r2, r3, rf, rl⟩ := box4_facts I4.out.r
  obtain ⟨z0, z1, z2, z3, zf, zl⟩ := box4_facts I4.out.z
  obtain ⟨y0, y1, y2, y3, y4, yl⟩ := box5D_facts I4.out.x
  go_wp2_with fail
  refine Calls.mono (HD.out _ _ _ _ _ W4.out) ?_
  rintro e V5 ⟨o, rfl, hb, hq⟩
  have I5 : Hid _ := I3.out.below hb
  clear r0 r1 r2 r3 rf rl z0 z1 z2 z3 zf zl y0 y1 y2 y3 y4 yl
  clear W4 I4 HD hb I3
  obtain ⟨r0, r1, r2, r3, rf, rl⟩ := box4_facts I5.out.r
  obtain ⟨z0, z1, z2, z3, zf, zl⟩ := box4_facts I5.out.z
  obtain ⟨y0, y1, y2, y3, y4, yl⟩ := box5D_facts I5.out.x
  by_cases hE : qe = 0
  · subst hE
    obtain rfl : qr = RR := (if_pos rfl).symm.trans HRR.out
    obtain rfl : qo = OO := (if_pos rfl).symm.trans HOO.out
    obtain ⟨rfl, ⟨e0, e1, e2, e3, f0, f1, f2, f3⟩, hbx, hrl⟩ := hq rfl
    dsimp only at hbx hrl
    have HRL : Hid (RlAt V5 ⟨e0, e1, e2, e3, f0, f1, f2, f3⟩ qr) := hrl
    obtain ⟨s0, s1, s2, s3, sf, sl⟩ := box4_facts hbx
    clear hbx hq hrl HRR HOO
    dsimp only at s0 s1 s2 s3
    go_wp2
    obtain ⟨X, hX⟩ : ∃ X, (((V5.setCell ⟨w.heap.size + 1 + 1, 0, none⟩ (.slice e0 qr.s.length f0)).setCell ⟨w.heap.size + 1 + 1, 1, none⟩ (.slice e1 qr.hs.length f1)).setCell ⟨w.heap.size + 1 + 1, 2, none⟩ (.slice e2 qr.i.length f2)).setCell ⟨w.heap.size + 1 + 1, 3, none⟩ (.slice e3 qr.t.length f3) = X := ⟨_, rfl⟩
    have x0 : X.heap[w.heap.size + 1 + 1]? = some (.cells #[.slice e0 qr.s.length f0, .slice e1 qr.hs.length f1, .slice e2 qr.i.length f2, .slice e3 qr.t.length f3] 31 (0, 0)) := by rw [← hX]; exact box4_set I5.out.z
    have xb : Below w.heap.size w X := by rw [← hX]; exact (((I5.out.bel.setCell (by simp; omega) _).setCell (by simp; omega) _).setCell (by simp; omega) _).setCell (by simp; omega) _
    have xr : RlAt X ⟨e0, e1, e2, e3, f0, f1, f2, f3⟩ qr := by rw [← hX]; exact RLO.out V5 _ (w.heap.size + 1 + 1) HRL.out (sl_box I5.out.z ⟨_, _, _, rfl⟩ ⟨_, _, _, rfl⟩ ⟨_, _, _, rfl⟩ ⟨_, _, _, rfl⟩) _ (OffB.refl _ _).set.set.set.set
    rw [hX]
    obtain ⟨m0, m1, m2, m3, mf, ml⟩ := box4_facts x0
    exact bodyPost_ret (v := .tuple #[.agg #[.slice e0 qr.s.length f0, .slice e1 qr.hs.length f1, .slice e2 qr.i.length f2, .slice e3 qr.t.length f3], .int .i64 o, .int .i64 0]) (by simp [results, Tryz.results4, go_sem, m0, m1, m2, m3]) rfl ⟨⟨e0, e1, e2, e3, f0, f1, f2, f3⟩, rfl, xb, xr⟩
  · obtain rfl : zeroRl = RR := (if_neg hE).symm.trans HRR.out
    obtain rfl : (0 : Int) = OO := (if_neg hE).symm.trans HOO.out
    have hz : (qe == 0) = false := by simp [hE]
    clear hq HRR HOO
    dsimp only
    go_wp2
    obtain ⟨X, hX⟩ : ∃ X, (((V5.setCell ⟨w.heap.size + 1 + 1, 0, none⟩ (.slice none 0 0)).setCell ⟨w.heap.size + 1 + 1, 1, none⟩ (.slice none 0 0)).setCell ⟨w.heap.size + 1 + 1, 2, none⟩ (.slice none 0 0)).setCell ⟨w.heap.size + 1 + 1, 3, none⟩ (.slice none 0 0) = X := ⟨_, rfl⟩
    have x0 : X.heap[w.heap.size + 1 + 1]? = some (.cells #[.slice none 0 0, .slice none 0 0, .slice none 0 0, .slice none 0 0] 31 (0, 0)) := by rw [← hX]; exact box4_set I5.out.z
    have xb : Below w.heap.size w X := by rw [← hX]; exact (((I5.out.bel.setCell (by simp; omega) _).setCell (by simp; omega) _).setCell (by simp; omega) _).setCell (by simp; omega) _
    rw [hX]
    obtain ⟨m0, m1, m2, m3, mf, ml⟩ := box4_facts x0
    exact bodyPost_ret (v := .tuple #[.agg #[.slice none 0 0, .slice none 0 0, .slice none 0 0, .slice none 0 0], .int .i64 0, .int .i64 qe]) (by simp [results, Tryz.results4, go_sem, m0, m1, m2, m3]) rfl ⟨⟨none, none, none, none, 0, 0, 0, 0⟩, rfl, xb, rl_zero _ _⟩
end Go.Proofs.YtfaaijoneaompaaGreat
