/-
  Hands in new memory.
-/
import Derived.Test.YtfaaijoneaompaaGreatJDbDcDe
import Derived.Test.YtfaaijoneaompaaGreatJTcTd
import Derived.Test.YtfaaijoneaompaaGreatJCb
import Derived.Test.YtfaaijoneaompaaGreatJSfSgBa
import Derived.Test.YtfaaijoneaompaaGreatJSmBkTa
import Derived.Deep.RegionHeld3
namespace Go.Proofs.YtfaaijoneaompaaGreat
open Go.RowKit Go.ChangeShapes Go.WideShapes
set_option linter.unusedVariables false

theorem infoHandD : (Tryz.prog.info? 45).map (fun i => (i.zero, i.size, i.bytes)) = some (some (.agg #[.int .i64 0, .int .i64 0]), 2, 16) := by kernel_rfl
theorem makeHands16 (w : World) : (Instr.makeSlice 25 (.int .i64 16) (.int .i64 16)).run Tryz.prog w = .ok (.slice (some ⟨w.heap.size, 0, none⟩) 16 16) (w.alloc (.cells (madeCells #[.int .i64 0, .int .i64 0] 32) 45)) := by
  obtain ⟨i, hi, hz0, hz1, hz2⟩ := info_parts infoHandD
  have h := run_make (P := Tryz.prog) w 25 45 i _ Tryz.underlying25 hi hz0 .i64 .i64 16 16 (by omega) (by omega) (by rw [hz2]; omega) (by omega)
  rw [hz1] at h
  exact h
theorem rep_pair (n i : Nat) (h : i < n) : (List.replicate n ((0 : Int), (0 : Int))).getD i (0, 0) = (0, 0) := by
  rw [getD_elem _ _ (by rw [List.length_replicate]; exact h), List.getElem_replicate]
theorem made_zero (n j : Nat) (h : j < n) : (madeCells #[.int .i64 0, .int .i64 0] n)[j]? = some (.int .i64 0) := by
  have h2 : j % 2 = 0 ∨ j % 2 = 1 := by omega
  rcases h2 with h2 | h2 <;> simp [madeCells, h, h2]
theorem hands_made (W : World) : HandsAt (W.alloc (.cells (madeCells #[.int .i64 0, .int .i64 0] 32) 45)) (some ⟨W.heap.size, 0, none⟩) (List.replicate 16 (0, 0)) := fun i hi => by
  rw [List.length_replicate] at hi
  refine ⟨W.heap.size, 0, rfl, ?_, ?_⟩
  · rw [rep_pair 16 i hi]
    exact alloc_cell W _ _ _ (made_zero _ _ (by omega))
  · rw [rep_pair 16 i hi]
    exact alloc_cell W _ _ _ (made_zero _ _ (by omega))
end Go.Proofs.YtfaaijoneaompaaGreat

namespace Go.Proofs.YtfaaijoneaompaaGreat
open Go.RowKit
set_option linter.unusedVariables false

theorem natH {x : Int} (h : isH x) : ∃ p : Nat, x = p ∧ p < 16 := ⟨x.toNat, by have := h.1; omega, by have := h.2; have := h.1; omega⟩
/-- The cells of a realm's box behind something. -/
theorem box_after {w W : World} {t : Nat} {v0 v1 v2 v3 : Value} (hb : Below (w.heap.size + 1) (w.alloc (.cells #[v0, v1, v2, v3] t)) W) : W.heap[w.heap.size]? = some (.cells #[v0, v1, v2, v3] t (0, 0)) := (hb.block _ (Nat.lt_succ_self _)).trans (box4_new _ _ _ _ _ _)

set_option maxRecDepth 100000 in
set_option maxHeartbeats 1000000 in
theorem rcheck_ans : RCheckAns := fun A R w hB hW => by
  obtain ⟨a0, a1, a2, a3, c0, c1, c2, c3⟩ := A
  obtain ⟨hN, hBS, hH, hI, hBC, hT⟩ := hB
  obtain ⟨w0, w1, w2, w3⟩ := hW
  have D0 : Hid (∀ o1, _) := fun o1 => check_any a0 c0 R.s (w.alloc o1) hN hBS (w0.below (one_belowS _ _))
  have D1 : Hid (∀ W, Below w.heap.size w W → _) := fun W hW => gcheck_any a2 c2 R.i W hI hBC (w2.below hW)
  clear w0 w1 w2 w3 hBS hBC
  dsimp only [rlV]
  unfold rcheckE
  obtain ⟨E0, h0⟩ : ∃ E, checkE R.s = E := ⟨_, rfl⟩
  obtain ⟨E1, h1⟩ : ∃ E, gcheckE R.i = E := ⟨_, rfl⟩
  rw [h0] at D0 ⊢
  rw [h1] at D1 ⊢
  clear h0 h1
  generalize R.s.length = n0 at *
  generalize R.i.length = n2 at *
  generalize R.t.length = n3 at *
  generalize R.hs.length = n1 at *
  by_cases e0 : E0 = 0
  · subst e0
    rw [if_pos rfl]
    by_cases e1 : n1 = 16
    · subst e1
      rw [if_pos rfl]
      by_cases e2 : E1 = 0
      · subst e2
        rw [if_pos rfl]
        by_cases e3 : 4800 < n3
        · rw [if_pos e3]
          have e3' : (4800 : Int) < (n3 : Int) := by omega
          go_enter Tryz.func6, Tryz.ntmps6
          go_wp2_with fail
          refine Calls.mono (D0.out _) ?_
          rintro e V ⟨rfl, hb⟩
          have HB : Hid (Below w.heap.size w V) := (one_belowS w _).trans (hb.mono (by simp))
          simp only [World.size_alloc] at hb
          have HX : Hid _ := box_after hb
          obtain ⟨l0, l1, l2, l3, fz, lt⟩ := box4_facts HX.out
          clear hb D0
          go_wp2_with fail
          refine Calls.mono (D1.out _ HB.out) ?_
          rintro e V2 ⟨rfl, hb⟩
          have HB2 : Hid (Below w.heap.size w V2) := HB.out.trans (hb.mono HB.out.size)
          have HX2 : Hid _ := keepB HX.out hb
          clear l0 l1 l2 l3 fz lt
          obtain ⟨l0, l1, l2, l3, fz, lt⟩ := box4_facts HX2.out
          clear hb D1
          go_wp2
          go_ret
          exact ⟨rfl, HB2.out⟩
        · rw [if_neg e3]
          have e3' : ¬ (4800 : Int) < (n3 : Int) := by omega
          go_enter Tryz.func6, Tryz.ntmps6
          go_wp2_with fail
          refine Calls.mono (D0.out _) ?_
          rintro e V ⟨rfl, hb⟩
          have HB : Hid (Below w.heap.size w V) := (one_belowS w _).trans (hb.mono (by simp))
          simp only [World.size_alloc] at hb
          have HX : Hid _ := box_after hb
          obtain ⟨l0, l1, l2, l3, fz, lt⟩ := box4_facts HX.out
          clear hb D0
          go_wp2_with fail
          refine Calls.mono (D1.out _ HB.out) ?_
          rintro e V2 ⟨rfl, hb⟩
          have HB2 : Hid (Below w.heap.size w V2) := HB.out.trans (hb.mono HB.out.size)
          have HX2 : Hid _ := keepB HX.out hb
          clear l0 l1 l2 l3 fz lt
          obtain ⟨l0, l1, l2, l3, fz, lt⟩ := box4_facts HX2.out
          clear hb D1
          go_wp2
          go_ret
          exact ⟨rfl, HB2.out⟩
      · rw [if_neg e2]
        have hz : (E1 == 0) = false := by simp [e2]
        go_enter Tryz.func6, Tryz.ntmps6
        go_wp2_with fail
        refine Calls.mono (D0.out _) ?_
        rintro e V ⟨rfl, hb⟩
        have HB : Hid (Below w.heap.size w V) := (one_belowS w _).trans (hb.mono (by simp))
        simp only [World.size_alloc] at hb
        have HX : Hid _ := box_after hb
        obtain ⟨l0, l1, l2, l3, fz, lt⟩ := box4_facts HX.out
        clear hb D0
        go_wp2_with fail
        refine Calls.mono (D1.out _ HB.out) ?_
        rintro e V2 ⟨rfl, hb⟩
        have HB2 : Hid (Below w.heap.size w V2) := HB.out.trans (hb.mono HB.out.size)
        clear l0 l1 l2 l3 fz lt hb D1
        go_wp2
        go_ret
        exact ⟨rfl, HB2.out⟩
    · rw [if_neg e1]
      have e1' : ¬ ((n1 : Int) = 16) := by omega
      have hz : ((n1 : Int) == 16) = false := by simp [e1']
      go_enter Tryz.func6, Tryz.ntmps6
      go_wp2_with fail
      refine Calls.mono (D0.out _) ?_
      rintro e V ⟨rfl, hb⟩
      have HB : Hid (Below w.heap.size w V) := (one_belowS w _).trans (hb.mono (by simp))
      simp only [World.size_alloc] at hb
      have HX : Hid _ := box_after hb
      obtain ⟨l0, l1, l2, l3, fz, lt⟩ := box4_facts HX.out
      clear hb D0 D1
      go_wp2
      go_ret
      exact ⟨rfl, HB.out⟩
  · rw [if_neg e0]
    have hz : (E0 == 0) = false := by simp [e0]
    go_enter Tryz.func6, Tryz.ntmps6
    go_wp2_with fail
    refine Calls.mono (D0.out _) ?_
    rintro e V ⟨rfl, hb⟩
    have HB : Hid (Below w.heap.size w V) := (one_belowS w _).trans (hb.mono (by simp))
    clear hb D0 D1
    go_wp2
    go_ret
    exact ⟨rfl, HB.out⟩

set_option maxRecDepth 100000 in
set_option maxHeartbeats 1000000 in
theorem newBadD (p : Int) (w : World) (hp : p < 0 ∨ 24 < p) :
    Calls Tryz.prog 40 #[.int .i64 p] w fun e w' => e = .returned (.tuple #[.agg #[.slice none 0 0], .int .i64 2]) ∧ Below w.heap.size w w' := by
  go_enter Tryz.func40, Tryz.ntmps40
  go_wp2_with (go_at_call 22; refine (within_no _ _ _ _ hp).mono ?_; rintro e w' ⟨rfl, rfl⟩)
  first
    | (go_ret; exact ⟨rfl, Below.refl _ _⟩)
    | (go_ret; exact ⟨rfl, (Below.refl _ _).alloc (Nat.le_refl _) _⟩)
    | (refine bodyPost_ret (v := .tuple #[.agg #[.slice none 0 0], .int .i64 2]) (by simp [results, Tryz.results40, go_sem]) rfl ⟨rfl, ?_⟩; first | exact (Below.refl _ _).alloc (Nat.le_refl _) _ | exact ((Below.refl _ _).alloc (Nat.le_refl _) _).setCell (by simp) _ | exact (((Below.refl _ _).alloc (Nat.le_refl _) _).setCell (by simp) _).drew)

set_option maxRecDepth 100000 in
set_option maxHeartbeats 1000000 in
theorem new_ans : NewAns := fun p w => by
  by_cases hp : 0 ≤ p ∧ p ≤ 24
  · have e1 : newR p = ⟨List.replicate p.toNat unusedNd, List.replicate 16 (0, 0), [], []⟩ := if_pos hp
    have e2 : newE p = 0 := if_pos hp
    rw [e1, e2]
    clear e1 e2
    obtain ⟨n, rfl⟩ : ∃ n : Nat, p = n := ⟨p.toNat, by omega⟩
    rw [Int.toNat_natCast]
    have D : Hid (∀ o1, _) := fun o1 => new_any n (w.alloc o1) (by omega)
    clear hp
    have hmk := makeHands16
    go_enter Tryz.func14, Tryz.ntmps14
    go_wp2_with fail
    refine Calls.mono (D.out _) ?_
    rintro e V ⟨g, rfl, hb, hn⟩
    have HB : Hid (Below w.heap.size w V) := (one_belowS w _).trans (hb.mono (by simp))
    have HN : Hid (NdsAt V (some ⟨g, 0, none⟩) (List.replicate n unusedNd)) := hn
    simp only [World.size_alloc] at hb
    have HX : Hid _ := box_after hb
    obtain ⟨l0, l1, l2, l3, fz, lt⟩ := box4_facts HX.out
    clear hb D hn
    go_wp2_with fail
    go_region
    go_wp2
    have SL : Hid (SlB V w.heap.size) := sl_box HX.out ⟨_, _, _, rfl⟩ ⟨_, _, _, rfl⟩ ⟨_, _, _, rfl⟩ ⟨_, _, _, rfl⟩
    obtain ⟨X, hX⟩ : ∃ X, (((V.setCell ⟨w.heap.size, 0, none⟩ (.slice (some ⟨g, 0, none⟩) n n)).setCell ⟨w.heap.size, 1, none⟩ (.slice (some ⟨V.heap.size + 1, 0, none⟩) 16 16)).setCell ⟨w.heap.size, 2, none⟩ (.slice none 0 0)).setCell ⟨w.heap.size, 3, none⟩ (.slice none 0 0) = X := ⟨_, rfl⟩
    have x0 : X.heap[w.heap.size]? = some (.cells #[.slice (some ⟨g, 0, none⟩) n n, .slice (some ⟨V.heap.size + 1, 0, none⟩) 16 16, .slice none 0 0, .slice none 0 0] 31 (0, 0)) := by rw [← hX]; exact box4_set HX.out
    have x1 : NdsAt X (some ⟨g, 0, none⟩) (List.replicate n unusedNd) := by rw [← hX]; exact HN.out.offB SL.out (OffB.refl _ _).set.set.set.set
    have x2 : X.heap.size = V.heap.size := by rw [← hX]; simp
    have x3 : Below w.heap.size w X := by rw [← hX]; exact (((HB.out.setCell (Nat.le_refl _) _).setCell (Nat.le_refl _) _).setCell (Nat.le_refl _) _).setCell (Nat.le_refl _) _
    rw [hX]
    clear hX
    have x4 := hands_made (X.alloc (Obj.cells #[Value.slice (some ⟨g, 0, none⟩) n n] 24))
    rw [World.size_alloc, x2] at x4
    have b2 := (two_belowS X (Obj.cells #[Value.slice (some ⟨g, 0, none⟩) n n] 24) (Obj.cells (madeCells #[Value.int IntKind.i64 0, Value.int IntKind.i64 0] 32) 45)).drew
    have x5 := keepB x0 b2
    obtain ⟨m0, m1, m2, m3, mf, ml⟩ := box4_facts x5
    refine bodyPost_ret (v := .tuple #[.agg #[.slice (some ⟨g, 0, none⟩) n n, .slice (some ⟨V.heap.size + 1, 0, none⟩) 16 16, .slice none 0 0, .slice none 0 0], .int .i64 0]) (by simp [results, Tryz.results14, go_sem, m0, m1, m2, m3]) rfl ⟨⟨some ⟨g, 0, none⟩, some ⟨V.heap.size + 1, 0, none⟩, none, none, n, 16, 0, 0⟩, by simp [rlV], x3.trans (b2.mono x3.size), x1.below b2, x4.below (Below.refl _ _).drew, fun _ h => absurd h (Nat.not_lt_zero _), fun _ h => absurd h (Nat.not_lt_zero _)⟩
  · have e1 : newR p = zeroRl := if_neg hp
    have e2 : newE p = 2 := if_neg hp
    rw [e1, e2]
    clear e1 e2
    have D : Hid (∀ o1, _) := fun o1 => newBadD p (w.alloc o1) (by omega)
    clear hp
    go_enter Tryz.func14, Tryz.ntmps14
    go_wp2_with fail
    refine Calls.mono (D.out _) ?_
    rintro e V ⟨rfl, hb⟩
    have HB : Hid (Below w.heap.size w V) := (one_belowS w _).trans (hb.mono (by simp))
    simp only [World.size_alloc] at hb
    have HX : Hid _ := box_after hb
    obtain ⟨l0, l1, l2, l3, fz, lt⟩ := box4_facts HX.out
    clear hb D
    go_wp2
    obtain ⟨X, hX⟩ : ∃ X, (((V.setCell ⟨w.heap.size, 0, none⟩ (.slice none 0 0)).setCell ⟨w.heap.size, 1, none⟩ (.slice none 0 0)).setCell ⟨w.heap.size, 2, none⟩ (.slice none 0 0)).setCell ⟨w.heap.size, 3, none⟩ (.slice none 0 0) = X := ⟨_, rfl⟩
    have x0 : X.heap[w.heap.size]? = some (.cells #[.slice none 0 0, .slice none 0 0, .slice none 0 0, .slice none 0 0] 31 (0, 0)) := by rw [← hX]; exact box4_set HX.out
    have x3 : Below w.heap.size w X := by rw [← hX]; exact (((HB.out.setCell (Nat.le_refl _) _).setCell (Nat.le_refl _) _).setCell (Nat.le_refl _) _).setCell (Nat.le_refl _) _
    rw [hX]
    clear hX
    have b2 := one_belowS X (Obj.cells #[Value.slice none 0 0] 24)
    have x5 := keepB x0 b2
    obtain ⟨m0, m1, m2, m3, mf, ml⟩ := box4_facts x5
    refine bodyPost_ret (v := .tuple #[.agg #[.slice none 0 0, .slice none 0 0, .slice none 0 0, .slice none 0 0], .int .i64 2]) (by simp [results, Tryz.results14, go_sem, m0, m1, m2, m3]) rfl ⟨⟨none, none, none, none, 0, 0, 0, 0⟩, rfl, x3.trans (b2.mono x3.size), rl_zero _ _⟩

set_option maxRecDepth 100000 in
set_option maxHeartbeats 1000000 in
theorem isHand_any (A : RA) (R : Rl) (k : Int) (w : World) (hl : R.hs.length = 16) :
    Calls Tryz.prog 11 #[rlV A R, .int .i64 k] w fun e w' => e = .returned (.bool (decide (isH k))) ∧ Below w.heap.size w w' := by
  dsimp only [rlV]
  rw [hl]
  have D : Hid (∀ W, Calls _ _ _ _ _) := fun W => within_any k 0 15 W
  have hd : decide (0 ≤ k ∧ k ≤ 15) = decide (isH k) := rfl
  rw [hd] at D
  clear hd hl
  generalize decide (isH k) = r at *
  go_enter Tryz.func11, Tryz.ntmps11
  go_wp2_with fail
  refine Calls.mono (D.out _) ?_
  rintro e V ⟨rfl, hw⟩
  subst hw
  go_wp2
  go_ret
  exact ⟨rfl, one_belowS _ _⟩
end Go.Proofs.YtfaaijoneaompaaGreat

namespace Go.Proofs.YtfaaijoneaompaaGreat
open Go.RowKit Go.ChangeShapes Go.WideShapes
set_option linter.unusedVariables false

/-- All that lay in w lies in w' as it lay, but for X. -/
structure OffX (X : Nat → Prop) (w w' : World) : Prop where
  size : w.heap.size ≤ w'.heap.size
  block : ∀ b, b < w.heap.size → ¬ X b → w'.heap[b]? = w.heap[b]?
theorem OffX.refl (X : Nat → Prop) (w : World) : OffX X w w := ⟨Nat.le_refl _, fun _ _ _ => rfl⟩
theorem OffX.of_below {X : Nat → Prop} {w w' : World} (h : Below w.heap.size w w') : OffX X w w' := ⟨h.size, fun b hb _ => h.block b hb⟩
theorem OffX.trans {X : Nat → Prop} {w w' w'' : World} (h : OffX X w w') (k : OffX X w' w'') : OffX X w w'' := ⟨Nat.le_trans h.size k.size, fun b hb hx => (k.block b (Nat.lt_of_lt_of_le hb h.size) hx).trans (h.block b hb hx)⟩
theorem OffX.set {X : Nat → Prop} (w : World) {b o : Nat} (v : Value) (h : X b) : OffX X w (w.setCell ⟨b, o, none⟩ v) := ⟨by simp, fun k _ hk => Below.heap_setCell _ _ _ _ (fun e => hk (by rw [e]; exact h))⟩
theorem OffX.grown {X : Nat → Prop} {w w' : World} {r : Option Nat} (h : w.grownBy w' r) (hx : ∀ b, r = some b → X b) : OffX X w w' := ⟨h.size, fun k hk hn => h.block k hk (fun e => hn (hx k e.symm))⟩
def ClsSt (X : Nat → Prop) (w : World) (a : Option Addr) (G : List Cl) : Prop := ∀ w', OffX X w w' → ClsAt w' a G
theorem ClsSt.at {X : Nat → Prop} {w : World} {a : Option Addr} {G : List Cl} (h : ClsSt X w a G) : ClsAt w a G := h w (OffX.refl X w)
theorem ClsSt.off {X : Nat → Prop} {w w' : World} {a : Option Addr} {G : List Cl} (h : ClsSt X w a G) (ho : OffX X w w') : ClsSt X w' a G := fun w'' h2 => h w'' (ho.trans h2)
/-- X may grow by what was not there. -/
theorem off_grow {X Y : Nat → Prop} {w w1 w' : World} (hs : w.heap.size ≤ w1.heap.size) (hb : ∀ b, b < w.heap.size → ¬ X b → w1.heap[b]? = w.heap[b]?) (hY : ∀ b, b < w.heap.size → Y b → X b) (h : OffX Y w1 w') : OffX X w w' := ⟨Nat.le_trans hs h.size, fun b h1 h2 => (h.block b (Nat.lt_of_lt_of_le h1 hs) (fun hy => h2 (hY b h1 hy))).trans (hb b h1 h2)⟩
theorem ClsSt.grow {X Y : Nat → Prop} {w w1 : World} {a : Option Addr} {G : List Cl} (h : ClsSt X w a G) (ho : OffX X w w1) (hY : ∀ b, b < w.heap.size → Y b → X b) : ClsSt Y w1 a G := fun w' h2 => h w' (off_grow ho.size ho.block hY h2)
/-- What lies below a size, of which X has none. -/
theorem cls_stB {X : Nat → Prop} {w w1 : World} {a : Option Addr} {G : List Cl} (h : ClsAt w a G) (ho : OffX X w w1) (hX : ∀ b, X b → w.heap.size ≤ b) : ClsSt X w1 a G := fun w' h2 => by
  have h3 := ho.trans h2
  have h4 : ClsAt { w' with os := w.os, tape := w.tape, output := w.output } a G := h.below ⟨rfl, rfl, rfl, h3.size, fun b hb => h3.block b hb (fun hx => by have := hX b hx; omega)⟩
  exact h4

theorem OffX.mono {X Y : Nat → Prop} {w w' : World} (h : OffX X w w') (hXY : ∀ b, X b → Y b) : OffX Y w w' := ⟨h.size, fun b hb hy => h.block b hb (fun hx => hy (hXY b hx))⟩
/-- What stays so, whatever becomes of X. -/
def St (X : Nat → Prop) (P : World → Prop) (w : World) : Prop := ∀ w', OffX X w w' → P w'
theorem St.off {X : Nat → Prop} {P : World → Prop} {w w' : World} (h : St X P w) (ho : OffX X w w') : St X P w' := fun w'' h2 => h w'' (ho.trans h2)
theorem St.at {X : Nat → Prop} {P : World → Prop} {w : World} (h : St X P w) : P w := h w (OffX.refl X w)
theorem St.less {X Y : Nat → Prop} {P : World → Prop} {w : World} (h : St Y P w) (hXY : ∀ b, X b → Y b) : St X P w := fun w' ho => h w' (ho.mono hXY)
end Go.Proofs.YtfaaijoneaompaaGreat

namespace Go.Proofs.YtfaaijoneaompaaGreat
open Go.RowKit Go.ChangeShapes Go.WideShapes
set_option linter.unusedVariables false

theorem info_cell : (Tryz.prog.info? 62).map (fun i => (i.zero, i.size, i.bytes)) = some (some (.agg #[.int .i64 0, .slice none 0 0]), 2, 32) := by kernel_rfl
theorem makeCls (n : Nat) (hn : n ≤ 1000) (w : World) : (Instr.makeSlice 26 (.int .i64 (n : Int)) (.int .i64 (n : Int))).run Tryz.prog w = .ok (.slice (some ⟨w.heap.size, 0, none⟩) n n) (w.alloc (.cells (madeCells #[.int .i64 0, .slice none 0 0] (n * 2)) 62)) := by
  obtain ⟨i, hi, hz0, hz1, hz2⟩ := info_parts info_cell
  have h := run_make (P := Tryz.prog) w 26 62 i _ Tryz.underlying26 hi hz0 .i64 .i64 n n (by omega) (by omega) (by rw [hz2]; omega) (by omega)
  rw [hz1] at h
  simp only [Int.toNat_natCast] at h
  exact h
theorem row_madeCls (w : World) (n : Nat) : (w.alloc (.cells (madeCells #[.int .i64 0, .slice none 0 0] (n * 2)) 62)).rowIs w.heap.size 62 (n * 2) (fun j => (#[.int .i64 0, .slice none 0 0] : Array Value)[j % 2]!) := by
  have h := World.rowIs_alloc w (madeCells #[.int .i64 0, .slice none 0 0] (n * 2)) 62 (fun j => (#[.int .i64 0, .slice none 0 0] : Array Value)[j % 2]!) (fun i hi => by rw [size_madeCells] at hi; simp [madeCells, hi])
  rw [size_madeCells] at h
  exact h

/-- Cells in a row of the call's own, the first k of them there. -/
def CgI (B g : Nat) (G : List Cl) (k : Nat) (w : World) : Prop := B ≤ g ∧ ∃ F, w.rowIs g 62 (G.length * 2) F ∧ ∀ i, i < k → F (i * 2) = .int .i64 (cl G i).n ∧ ∃ ka kc, F (i * 2 + 1) = .slice ka (cl G i).ks.length kc ∧ St (fun b => b ≤ g) (fun w => IntsAt w ka (cl G i).ks) w
theorem CgI.step {B g k : Nat} {G : List Cl} {wr w3 : World} (h : CgI B g G k wr) (hk : k < G.length) (hb : Below wr.heap.size wr w3) {kg : Nat} (hkg : wr.heap.size ≤ kg) (hrow : w3.rowIs kg 3 (cl G k).ks.length (fun j => .int .i64 ((cl G k).ks.getD j 0))) :
    CgI B g G (k + 1) ((w3.setCell ⟨g, k * 2, none⟩ (.int .i64 (cl G k).n)).setCell ⟨g, k * 2 + 1, none⟩ (.slice (some ⟨kg, 0, none⟩) (cl G k).ks.length (cl G k).ks.length)) := by
  obtain ⟨hB, F, hF, hN⟩ := h
  have hg := hF.lt
  have hF3 := hF.of_block (hb.block g hg)
  have o3 : OffX (fun b => b ≤ g) w3 ((w3.setCell ⟨g, k * 2, none⟩ (.int .i64 (cl G k).n)).setCell ⟨g, k * 2 + 1, none⟩ (.slice (some ⟨kg, 0, none⟩) (cl G k).ks.length (cl G k).ks.length)) := (OffX.set (X := fun b => b ≤ g) w3 _ (Nat.le_refl g)).trans (OffX.set (X := fun b => b ≤ g) _ _ (Nat.le_refl g))
  have o4 : OffX (fun b => b ≤ g) wr w3 := OffX.of_below hb
  refine ⟨hB, _, (hF3.set (k * 2) _).set (k * 2 + 1) _, fun i hi => ?_⟩
  by_cases e : i = k
  · subst e
    refine ⟨by simp, some ⟨kg, 0, none⟩, (cl G i).ks.length, by simp, fun w' ho => ints_row (hrow.of_block ?_)⟩
    have hl := hrow.lt
    exact ((o3.trans ho).block kg hl (by show ¬ kg ≤ g; omega))
  · obtain ⟨h1, ka, kc, h2, h3⟩ := hN i (by omega)
    refine ⟨?_, ka, kc, ?_, h3.off (o4.trans o3)⟩
    · rw [if_neg (by omega), if_neg (by omega)]; exact h1
    · rw [if_neg (by omega), if_neg (by omega)]; exact h2
theorem CgI.cls {B g : Nat} {G : List Cl} {w : World} (h : CgI B g G G.length w) : St (fun b => b < B) (fun w => ClsAt w (some ⟨g, 0, none⟩) G) w := fun w' ho i hi => by
  obtain ⟨hB, F, hF, hN⟩ := h
  have hF' := hF.of_block (ho.block g hF.lt (by show ¬ g < B; omega))
  obtain ⟨h1, ka, kc, h2, h3⟩ := hN i hi
  refine ⟨g, 0, rfl, ?_⟩
  rw [Nat.zero_add]
  exact ⟨by rw [hF'.cell (by omega), h1], ka, kc, by rw [hF'.cell (by omega), h2], h3 w' (ho.mono (fun b hb => by show b ≤ g; have : b < B := hb; omega))⟩
theorem CgI.off {B g k : Nat} {G : List Cl} {w w' : World} (h : CgI B g G k w) (ho : OffX (fun b => b < g) w w') : CgI B g G k w' := by
  obtain ⟨hB, F, hF, hN⟩ := h
  refine ⟨hB, F, hF.of_block (ho.block g hF.lt (by show ¬ g < g; omega)), fun i hi => ?_⟩
  obtain ⟨h1, ka, kc, h2, h3⟩ := hN i hi
  exact ⟨h1, ka, kc, h2, h3.off (ho.mono (fun b hb => by show b ≤ g; have : b < g := hb; omega))⟩

set_option maxRecDepth 100000 in
set_option maxHeartbeats 2000000 in
theorem cgraph_any (a : Option Addr) (c : Nat) (G : List Cl) (w : World) (hN : G.length ≤ 1000) (hK : ∀ i, i < G.length → (cl G i).ks.length ≤ 1000) (hG : ClsAt w a G) :
    Calls Tryz.prog 39 #[.agg #[.slice a G.length c]] w fun e w' => ∃ g, e = .returned (.agg #[.slice (some ⟨g, 0, none⟩) G.length G.length]) ∧ Below w.heap.size w w' ∧ ClsSt (fun b => b < w.heap.size) w' (some ⟨g, 0, none⟩) G := by
  have HG : Hid (ClsAt w a G) := hG
  have HK : Hid _ := hK
  have ST : Hid (∀ (wr w3 : World) (k kg : Nat), CgI w.heap.size (w.heap.size + 1 + 1) G k wr → k < G.length → Below wr.heap.size wr w3 → wr.heap.size ≤ kg → w3.rowIs kg 3 (cl G k).ks.length (fun j => .int .i64 ((cl G k).ks.getD j 0)) → _) := fun wr w3 k kg h1 h2 h3 h4 h5 => CgI.step h1 h2 h3 h4 h5
  have FN : Hid (∀ wr : World, CgI w.heap.size (w.heap.size + 1 + 1) G G.length wr → _) := fun wr h => CgI.cls h
  have ZR : Hid (∀ W : World, W.heap.size = w.heap.size + 1 + 1 → CgI w.heap.size (w.heap.size + 1 + 1) G 0 (W.alloc (.cells (madeCells #[.int .i64 0, .slice none 0 0] (G.length * 2)) 62))) := fun W hW => by
    have h := row_madeCls W G.length
    rw [hW] at h
    exact ⟨by omega, _, h, fun i hi => absurd hi (Nat.not_lt_zero _)⟩
  have OC : Hid (∀ (wr : World) (k : Nat), CgI w.heap.size (w.heap.size + 1 + 1) G k wr → k < G.length → (w.heap.size + 1 + 1 < wr.heap.size ∧ (∀ o, wr.frozen? ⟨w.heap.size + 1 + 1, o, none⟩ = false) ∧ ∃ x y, wr.cell? ⟨w.heap.size + 1 + 1, k * 2, none⟩ = some x ∧ wr.cell? ⟨w.heap.size + 1 + 1, k * 2 + 1, none⟩ = some y)) := fun wr k h hk => by
    obtain ⟨_, F, hF, _⟩ := h
    exact ⟨hF.lt, hF.frozen, _, _, hF.cell (by omega), hF.cell (by omega)⟩
  clear hG hK
  obtain ⟨n, hn⟩ : ∃ n, G.length = n := ⟨_, rfl⟩
  have HN : Hid (G.length = n) := hn
  rw [hn] at hN HK ST FN ZR OC ⊢
  clear hn
  have hmk := makeCls n hN
  go_enter Tryz.func39, Tryz.ntmps39
  go_wp2
  go_loopg [13] n (fun g s13 wr => ∃ k : Nat, k ≤ n ∧ n - k ≤ g ∧ s13 = .int .i64 k ∧ Below (w.heap.size + 1 + 1) ((w.alloc (Obj.cells #[Value.slice a n c] 28)).alloc (Obj.cells #[Value.slice none 0 0] 28)) wr ∧ Hid (CgI w.heap.size (w.heap.size + 1 + 1) G k wr))
  case atStart => exact ⟨0, by omega, by omega, rfl, (Below.refl _ _).alloc (by simp) _, ZR.out _ (by simp)⟩
  case round =>
    obtain ⟨k, hk, hg, rfl, hb, O⟩ := hrel
    have hB0 : Below w.heap.size w wr := (two_belowS _ _ _).trans (hb.mono (by omega))
    by_cases hlt : k < n
    · have hlt2 : (k : Int) < (n : Int) := by omega
      obtain ⟨b, o, rfl, hnd⟩ := HG.out k (by rw [HN.out]; exact hlt)
      obtain ⟨c0, ka, kc, c1, hks⟩ := hnd.below hB0
      have hbw := World.block_lt_of_cell? _ _ c0
      obtain ⟨hgl, hfz, x, y, r0, r1⟩ := OC.out _ _ O.out hlt
      have d1 := fun W (hW : Below wr.heap.size wr W) => copyKids_any ka kc (cl G k).ks W (Nat.le_trans (HK.out k hlt) (by omega)) (hks.below hW)
      have D1 : Hid _ := d1
      have ST2 : Hid (∀ (w3 : World) (kg : Nat), Below wr.heap.size wr w3 → wr.heap.size ≤ kg → w3.rowIs kg 3 (cl G k).ks.length (fun j => .int .i64 ((cl G k).ks.getD j 0)) → _) := fun w3 kg h3 h4 h5 => ST.out wr w3 k kg O.out hlt h3 h4 h5
      clear hks hnd d1
      generalize cl G k = z at *
      obtain ⟨zn, zks⟩ := z
      dsimp only at c0 c1 D1 ST2
      obtain ⟨l, hl⟩ : ∃ l, zks.length = l := ⟨_, rfl⟩
      rw [hl] at c1 D1 ST2
      clear hl
      have hszr : w.heap.size + 1 + 1 < wr.heap.size := hgl
      go_wp2_with fail
      obtain ⟨V, hV⟩ : ∃ V, wr.alloc (.cells #[.int .i64 zn, .slice ka l kc] 62) = V := ⟨_, rfl⟩
      have v0 : V.cell? ⟨wr.heap.size, 0, none⟩ = some (.int .i64 zn) := by rw [← hV]; exact alloc_cell _ _ _ 0 rfl
      have v1 : V.cell? ⟨wr.heap.size, 1, none⟩ = some (.slice ka l kc) := by rw [← hV]; exact alloc_cell _ _ _ 1 rfl
      have BV : Hid (Below wr.heap.size wr V) := by rw [← hV]; exact one_belowS _ _
      have sV : wr.heap.size < V.heap.size := World.block_lt_of_cell? _ _ v0
      have g0 := keepC r0 BV.out
      have g1 := keepC r1 BV.out
      have sg : w.heap.size + 1 + 1 < V.heap.size := World.block_lt_of_cell? _ _ g0
      have ne1 : ¬ w.heap.size + 1 + 1 = wr.heap.size := by omega
      have ne2 : ¬ wr.heap.size = w.heap.size + 1 + 1 := by omega
      rw [hV]
      clear hV
      go_region_held3 (fun w'' => w''.cell? ⟨wr.heap.size, 0, none⟩ = some (.int .i64 zn) ∧ w''.cell? ⟨wr.heap.size, 1, none⟩ = some (.slice ka l kc)) (go_keep) (first | (go_at_call 62; refine Calls.mono (D1.out _ ?nd) ?_; (case nd => exact BV.out.drew); rintro e w3 ⟨rfl, hb3, hrow⟩; have HV3 : Hid (Below V.heap.size V w3) := (Below.refl V.heap.size V).drew.trans hb3; have HB3 : Hid (Below wr.heap.size wr w3) := BV.out.trans (HV3.out.mono BV.out.size); have HR : Hid (w3.rowIs V.heap.size 3 l (fun j => .int .i64 (zks.getD j 0))) := hrow; have u0 := keepC v0 HV3.out; have u1 := keepC v1 HV3.out; have q0 := keepC g0 HV3.out; have q1 := keepC g1 HV3.out; have fz := fun o => (HB3.out.frozen (show (⟨w.heap.size + 1 + 1, o, none⟩ : Addr).block < wr.heap.size from hgl)).trans (hfz o); have s3 : V.heap.size < w3.heap.size := World.rowIs.lt hrow; clear hb3 hrow))
      have N3 : Hid _ := ST2.out w3 V.heap.size HB3.out BV.out.size HR.out
      clear u0 u1 q0 q1 fz
      obtain ⟨X, hX⟩ : ∃ X, (w3.setCell ⟨w.heap.size + 1 + 1, k * 2, none⟩ (.int .i64 zn)).setCell ⟨w.heap.size + 1 + 1, k * 2 + 1, none⟩ (.slice (some ⟨V.heap.size, 0, none⟩) l l) = X := ⟨_, rfl⟩
      have BX : Hid (Below (w.heap.size + 1 + 1) ((w.alloc (Obj.cells #[Value.slice (some ⟨b, o, none⟩) n c] 28)).alloc (Obj.cells #[Value.slice none 0 0] 28)) X) := by
        rw [← hX]
        exact ((hb.trans (HB3.out.mono (by have := hb.size; simp at this; omega))).setCell (by simp) _).setCell (by simp) _
      rw [hX] at N3 ⊢
      clear hX
      go_wp2_with fail
      go_roundg (n - (k + 1))
      case measure => omega
      case rel => exact ⟨k + 1, by omega, by omega, by go_num, BX.out, N3⟩
    · have : k = n := by omega
      subst this
      have y1 : wr.cell? ⟨w.heap.size + 1, 0, none⟩ = some (.slice none 0 0) := (hb.cell (by simp)).trans (by go_simp)
      have y2 : ∀ o, wr.frozen? ⟨w.heap.size + 1, o, none⟩ = false := fun o => (hb.frozen (by simp)).trans (by go_simp)
      have FN2 : Hid (ClsSt (fun b => b < w.heap.size) (wr.setCell ⟨w.heap.size + 1, 0, none⟩ (.slice (some ⟨w.heap.size + 1 + 1, 0, none⟩) k k)) (some ⟨w.heap.size + 1 + 1, 0, none⟩) G) := FN.out _ (O.out.off (OffX.set _ _ (by show w.heap.size + 1 < w.heap.size + 1 + 1; omega)))
      go_wp2
      refine bodyPost_ret (v := .agg #[.slice (some ⟨w.heap.size + 1 + 1, 0, none⟩) k k]) (by simp [results, Tryz.results39, go_sem, y1]) rfl ⟨w.heap.size + 1 + 1, rfl, hB0.setCell (by simp) _, FN2.out⟩
end Go.Proofs.YtfaaijoneaompaaGreat
