/-
  PortKeeps at whatever arguments: what stays so, a round after the other.
-/
import Derived.Test.YtgjfmepbphfjoaaUPr
namespace Go.Proofs.Ytgjfmepbphfjoaa
open Go.RowKit Go.ChangeShapes Go.WideShapes
set_option linter.unusedVariables false

theorem pts_stB {X : Nat → Prop} {w w1 : World} {a : Option Addr} {L : List Pt} (h : PtsAt w a L) (ho : OffX X w w1) (hX : ∀ b, X b → w.heap.size ≤ b) : PtsSt X w1 a L := fun w' h2 => by
  have h3 := ho.trans h2
  have h4 : PtsAt { w' with os := w.os, tape := w.tape, output := w.output } a L := h.below ⟨rfl, rfl, rfl, h3.size, fun b hb => h3.block b hb (fun hx => by have := hX b hx; omega)⟩
  exact h4
structure KI (w : World) (b8 : Nat) (wr : World) (X : Nat → Prop) (va : Option Addr) (vc : Nat) (o : Nat → Int) (C sent got : Nat → List (List Cl)) (v0 v1 g0 g1 : Value) (i : Nat) : Prop where
  lo : w.heap.size ≤ b8
  below : Below w.heap.size w wr
  sl : SlA va 2 vc
  pts : PtsSt X wr va (two o C)
  keep : Keep o C sent got
  kb : KB b8 wr X o sent got v0 v1 g0 g1
  n0 : (sent 0).length ≤ i
  n1 : (sent 1).length ≤ i
theorem KI.up {w : World} {b8 : Nat} {wr : World} {X : Nat → Prop} {va : Option Addr} {vc : Nat} {o : Nat → Int} {C sent got : Nat → List (List Cl)} {v0 v1 g0 g1 : Value} {i : Nat} (h : KI w b8 wr X va vc o C sent got v0 v1 g0 g1 i) {w1 : World} (hb : Below wr.heap.size wr w1) : KI w b8 w1 X va vc o C sent got v0 v1 g0 g1 i :=
  ⟨h.lo, h.below.trans (hb.mono h.below.size), h.sl, h.pts.off (OffX.of_below hb), h.keep, h.kb.below hb, h.n0, h.n1⟩
theorem KI.drewN {w : World} {b8 : Nat} {wr : World} {X : Nat → Prop} {va : Option Addr} {vc : Nat} {o : Nat → Int} {C sent got : Nat → List (List Cl)} {v0 v1 g0 g1 : Value} {i : Nat} (h : KI w b8 wr X va vc o C sent got v0 v1 g0 g1 i) (n : Nat) : KI w b8 (wr.drewN n) X va vc o C sent got v0 v1 g0 g1 i := h.up ⟨rfl, rfl, rfl, Nat.le_refl _, fun _ _ => rfl⟩
theorem KI.next {w : World} {b8 : Nat} {wr : World} {X : Nat → Prop} {va : Option Addr} {vc : Nat} {o : Nat → Int} {C sent got : Nat → List (List Cl)} {v0 v1 g0 g1 : Value} {i : Nat} (h : KI w b8 wr X va vc o C sent got v0 v1 g0 g1 i) : KI w b8 wr X va vc o C sent got v0 v1 g0 g1 (i + 1) := ⟨h.lo, h.below, h.sl, h.pts, h.keep, h.kb, Nat.le_succ_of_le h.n0, Nat.le_succ_of_le h.n1⟩
theorem KI.rows {w : World} {b8 : Nat} {wr : World} {X : Nat → Prop} {va : Option Addr} {vc : Nat} {o : Nat → Int} {C sent got : Nat → List (List Cl)} {v0 v1 g0 g1 : Value} {i : Nat} (h : KI w b8 wr X va vc o C sent got v0 v1 g0 g1 i) : ∃ p0 k0 p1 k1 q0 l0 q1 l1, v0 = .slice p0 (sent 0).length k0 ∧ v1 = .slice p1 (sent 1).length k1 ∧ g0 = .slice q0 (got 0).length l0 ∧ g1 = .slice q1 (got 1).length l1 := by
  have f : ∀ {v : Value} {D : List (List Cl)}, (∃ J, GRow X (b8 + 3) wr v D J) → ∃ p k, v = .slice p D.length k := fun ⟨J, hJ⟩ => by
    rcases hJ.row.2 with ⟨e, e0⟩ | ⟨g5, cap5, cur5, e, _⟩
    · exact ⟨none, 0, by rw [e, e0]⟩
    · exact ⟨_, cap5, e⟩
  obtain ⟨p0, k0, e0⟩ := f h.kb.r0
  obtain ⟨p1, k1, e1⟩ := f h.kb.r1
  obtain ⟨q0, l0, e2⟩ := f h.kb.q0
  obtain ⟨q1, l1, e3⟩ := f h.kb.q1
  exact ⟨p0, k0, p1, k1, q0, l0, q1, l1, e0, e1, e2, e3⟩
theorem KI.few {w : World} {b8 : Nat} {wr : World} {X : Nat → Prop} {va : Option Addr} {vc : Nat} {o : Nat → Int} {C sent got : Nat → List (List Cl)} {v0 v1 g0 g1 : Value} {i : Nat} (h : KI w b8 wr X va vc o C sent got v0 v1 g0 g1 i) : (got 0).length ≤ i ∧ (got 1).length ≤ i := by
  have h0 := h.keep.count (s := 0) (by decide)
  have h1 := h.keep.count (s := 1) (by decide)
  have := h.n0
  have := h.n1
  simp at h0 h1
  omega
theorem KI.put_v0 {w : World} {b8 : Nat} {wr : World} {X : Nat → Prop} {va : Option Addr} {vc : Nat} {o : Nat → Int} {C sent got : Nat → List (List Cl)} {v0 v1 g0 g1 : Value} {i : Nat} (h : KI w b8 wr X va vc o C sent got v0 v1 g0 g1 i) {J : Nat → Value} (hJ : GRow X (b8 + 3) wr v0 (sent 0) J) {u3 : World} {v' : Value} {G : List Cl} {xa va' : Option Addr} {xc vc' : Nat} (hrow : u3.ownsRow (b8 + 3) 25 1 v' ((sent 0).length + 1) (grow (sent 0).length J ++ [.slice xa G.length xc])) (hg : wr.grownBy u3 v0.ownBlock) (hat : v'.ownBlock = v0.ownBlock ∨ v'.ownBlock = some wr.heap.size)
    (hx : ClsAt w xa G) (hG : gcheckE G = 0) (h16 : (C 1).length ≠ 16) (hsl : SlA va' 2 vc') (hp : PtsSt X wr va' (two o (upd C 1 (C 1 ++ [copyF G])))) :
    KI w b8 (u3.setCell ⟨b8, 0, none⟩ v') (addX X v') va' vc' o (upd C 1 (C 1 ++ [copyF G])) (upd sent 0 (sent 0 ++ [G])) got v' v1 g0 g1 (i + 1) := by
  have hv' : ∀ b, v'.ownBlock = some b → b8 + 3 ≤ b ∧ b < u3.heap.size := fun b hb => hrow.lt b hb
  have hblw : ∀ k, v0.ownBlock = some k → w.heap.size ≤ k := fun k hk => by
    have h1 := h.kb.xlo k (h.kb.own v0 (by simp) k hk)
    have h2 := h.lo
    omega
  have hbel : Below w.heap.size w (u3.setCell ⟨b8, 0, none⟩ v') := (h.below.grown hg h.below.size hblw).setCell (by show w.heap.size ≤ b8; have := h.lo; omega) _
  have hX' : ∀ b, addX X v' b → w.heap.size ≤ b := fun b hb => by
    have h2 := h.lo
    rcases hb with hb | hb
    · have := h.kb.xlo b hb; omega
    · have := (hv' b hb).1; omega
  obtain ⟨k1, k2, k3⟩ := h.kb.put_v0 hJ hrow hg hat (G := G) (fun w' ho => ⟨xa, xc, rfl, (cls_stB hx (OffX.of_below hbel) hX') w' ho⟩)
  refine ⟨h.lo, hbel, hsl, hp.grow k2 k3, h.keep.push (s := 0) (by decide) hG h16, k1, ?_, ?_⟩
  · have := h.n0
    unfold upd
    split
    · rw [List.length_append, List.length_singleton]; first | omega | (have := h.n1; omega)
    · omega
  · have := h.n1
    unfold upd
    split
    · rw [List.length_append, List.length_singleton]; first | omega | (have := h.n0; omega)
    · omega
theorem KI.put_v1 {w : World} {b8 : Nat} {wr : World} {X : Nat → Prop} {va : Option Addr} {vc : Nat} {o : Nat → Int} {C sent got : Nat → List (List Cl)} {v0 v1 g0 g1 : Value} {i : Nat} (h : KI w b8 wr X va vc o C sent got v0 v1 g0 g1 i) {J : Nat → Value} (hJ : GRow X (b8 + 3) wr v1 (sent 1) J) {u3 : World} {v' : Value} {G : List Cl} {xa va' : Option Addr} {xc vc' : Nat} (hrow : u3.ownsRow (b8 + 3) 25 1 v' ((sent 1).length + 1) (grow (sent 1).length J ++ [.slice xa G.length xc])) (hg : wr.grownBy u3 v1.ownBlock) (hat : v'.ownBlock = v1.ownBlock ∨ v'.ownBlock = some wr.heap.size)
    (hx : ClsAt w xa G) (hG : gcheckE G = 0) (h16 : (C 0).length ≠ 16) (hsl : SlA va' 2 vc') (hp : PtsSt X wr va' (two o (upd C 0 (C 0 ++ [copyF G])))) :
    KI w b8 (u3.setCell ⟨b8, 1, none⟩ v') (addX X v') va' vc' o (upd C 0 (C 0 ++ [copyF G])) (upd sent 1 (sent 1 ++ [G])) got v0 v' g0 g1 (i + 1) := by
  have hv' : ∀ b, v'.ownBlock = some b → b8 + 3 ≤ b ∧ b < u3.heap.size := fun b hb => hrow.lt b hb
  have hblw : ∀ k, v1.ownBlock = some k → w.heap.size ≤ k := fun k hk => by
    have h1 := h.kb.xlo k (h.kb.own v1 (by simp) k hk)
    have h2 := h.lo
    omega
  have hbel : Below w.heap.size w (u3.setCell ⟨b8, 1, none⟩ v') := (h.below.grown hg h.below.size hblw).setCell (by show w.heap.size ≤ b8; have := h.lo; omega) _
  have hX' : ∀ b, addX X v' b → w.heap.size ≤ b := fun b hb => by
    have h2 := h.lo
    rcases hb with hb | hb
    · have := h.kb.xlo b hb; omega
    · have := (hv' b hb).1; omega
  obtain ⟨k1, k2, k3⟩ := h.kb.put_v1 hJ hrow hg hat (G := G) (fun w' ho => ⟨xa, xc, rfl, (cls_stB hx (OffX.of_below hbel) hX') w' ho⟩)
  refine ⟨h.lo, hbel, hsl, hp.grow k2 k3, h.keep.push (s := 1) (by decide) hG h16, k1, ?_, ?_⟩
  · have := h.n0
    unfold upd
    split
    · rw [List.length_append, List.length_singleton]; first | omega | (have := h.n1; omega)
    · omega
  · have := h.n1
    unfold upd
    split
    · rw [List.length_append, List.length_singleton]; first | omega | (have := h.n0; omega)
    · omega
theorem KI.put_g0 {w : World} {b8 : Nat} {wr : World} {X : Nat → Prop} {va : Option Addr} {vc : Nat} {o : Nat → Int} {C sent got : Nat → List (List Cl)} {v0 v1 g0 g1 : Value} {i : Nat} (h : KI w b8 wr X va vc o C sent got v0 v1 g0 g1 i) {J : Nat → Value} (hJ : GRow X (b8 + 3) wr g0 (got 0) J) {u3 : World} {v' : Value} {xa va' : Option Addr} {xc vc' : Nat} (hrow : u3.ownsRow (b8 + 3) 25 1 v' ((got 0).length + 1) (grow (got 0).length J ++ [.slice xa (gr (C 0) 0).length xc])) (hg : wr.grownBy u3 g0.ownBlock) (hat : v'.ownBlock = g0.ownBlock ∨ v'.ownBlock = some wr.heap.size)
    (hx : ClsSt X wr xa (gr (C 0) 0)) (h0 : (C 0).length ≠ 0) (hsl : SlA va' 2 vc') (hp : PtsSt X wr va' (two o (upd C 0 ((C 0).drop 1)))) :
    KI w b8 (u3.setCell ⟨(b8 + 1), 0, none⟩ v') (addX X v') va' vc' o (upd C 0 ((C 0).drop 1)) sent (upd got 0 (got 0 ++ [gr (C 0) 0])) v0 v1 v' g1 (i + 1) := by
  have hv' : ∀ b, v'.ownBlock = some b → b8 + 3 ≤ b ∧ b < u3.heap.size := fun b hb => hrow.lt b hb
  have hblw : ∀ k, g0.ownBlock = some k → w.heap.size ≤ k := fun k hk => by
    have h1 := h.kb.xlo k (h.kb.own g0 (by simp) k hk)
    have h2 := h.lo
    omega
  have hbel : Below w.heap.size w (u3.setCell ⟨(b8 + 1), 0, none⟩ v') := (h.below.grown hg h.below.size hblw).setCell (by show w.heap.size ≤ (b8 + 1); have := h.lo; omega) _
  have hY : ∀ b, b < wr.heap.size → addX X v' b → X b := fun b hb hy => by
    rcases hy with h1 | h1
    · exact h1
    · rcases hat with e | e
      · exact h.kb.own g0 (by simp) b (by rw [← e]; exact h1)
      · rw [e] at h1
        have := Option.some.inj h1
        omega
  have hoff : OffX X wr (u3.setCell ⟨(b8 + 1), 0, none⟩ v') := (OffX.grown hg (fun b hb => h.kb.own g0 (by simp) b hb)).trans (OffX.set u3 v' h.kb.x9)
  obtain ⟨k1, k2, k3⟩ := h.kb.put_g0 hJ hrow hg hat (G := gr (C 0) 0) (fun w' ho => ⟨xa, xc, rfl, (hx.grow hoff hY) w' ho⟩)
  exact ⟨h.lo, hbel, hsl, hp.grow k2 k3, h.keep.pull (s := 0) (by decide) h0, k1, Nat.le_succ_of_le h.n0, Nat.le_succ_of_le h.n1⟩
theorem KI.put_g1 {w : World} {b8 : Nat} {wr : World} {X : Nat → Prop} {va : Option Addr} {vc : Nat} {o : Nat → Int} {C sent got : Nat → List (List Cl)} {v0 v1 g0 g1 : Value} {i : Nat} (h : KI w b8 wr X va vc o C sent got v0 v1 g0 g1 i) {J : Nat → Value} (hJ : GRow X (b8 + 3) wr g1 (got 1) J) {u3 : World} {v' : Value} {xa va' : Option Addr} {xc vc' : Nat} (hrow : u3.ownsRow (b8 + 3) 25 1 v' ((got 1).length + 1) (grow (got 1).length J ++ [.slice xa (gr (C 1) 0).length xc])) (hg : wr.grownBy u3 g1.ownBlock) (hat : v'.ownBlock = g1.ownBlock ∨ v'.ownBlock = some wr.heap.size)
    (hx : ClsSt X wr xa (gr (C 1) 0)) (h0 : (C 1).length ≠ 0) (hsl : SlA va' 2 vc') (hp : PtsSt X wr va' (two o (upd C 1 ((C 1).drop 1)))) :
    KI w b8 (u3.setCell ⟨(b8 + 1), 1, none⟩ v') (addX X v') va' vc' o (upd C 1 ((C 1).drop 1)) sent (upd got 1 (got 1 ++ [gr (C 1) 0])) v0 v1 g0 v' (i + 1) := by
  have hv' : ∀ b, v'.ownBlock = some b → b8 + 3 ≤ b ∧ b < u3.heap.size := fun b hb => hrow.lt b hb
  have hblw : ∀ k, g1.ownBlock = some k → w.heap.size ≤ k := fun k hk => by
    have h1 := h.kb.xlo k (h.kb.own g1 (by simp) k hk)
    have h2 := h.lo
    omega
  have hbel : Below w.heap.size w (u3.setCell ⟨(b8 + 1), 1, none⟩ v') := (h.below.grown hg h.below.size hblw).setCell (by show w.heap.size ≤ (b8 + 1); have := h.lo; omega) _
  have hY : ∀ b, b < wr.heap.size → addX X v' b → X b := fun b hb hy => by
    rcases hy with h1 | h1
    · exact h1
    · rcases hat with e | e
      · exact h.kb.own g1 (by simp) b (by rw [← e]; exact h1)
      · rw [e] at h1
        have := Option.some.inj h1
        omega
  have hoff : OffX X wr (u3.setCell ⟨(b8 + 1), 1, none⟩ v') := (OffX.grown hg (fun b hb => h.kb.own g1 (by simp) b hb)).trans (OffX.set u3 v' h.kb.x9)
  obtain ⟨k1, k2, k3⟩ := h.kb.put_g1 hJ hrow hg hat (G := gr (C 1) 0) (fun w' ho => ⟨xa, xc, rfl, (hx.grow hoff hY) w' ho⟩)
  exact ⟨h.lo, hbel, hsl, hp.grow k2 k3, h.keep.pull (s := 1) (by decide) h0, k1, Nat.le_succ_of_le h.n0, Nat.le_succ_of_le h.n1⟩
theorem KI.pass0 {w : World} {b8 : Nat} {wr : World} {X : Nat → Prop} {va : Option Addr} {vc : Nat} {o : Nat → Int} {C sent got : Nat → List (List Cl)} {v0 v1 g0 g1 : Value} {i : Nat} (h : KI w b8 wr X va vc o C sent got v0 v1 g0 g1 i) {x : Int} (hx : 0 ≤ x ∧ x ≤ 2) {va' : Option Addr} {vc' : Nat} (hsl : SlA va' 2 vc') (hp : PtsSt X wr va' (two (upd o 0 x) C)) : KI w b8 (wr.setCell ⟨b8 + 2, 0, none⟩ (.int .i64 x)) X va' vc' (upd o 0 x) C sent got v0 v1 g0 g1 (i + 1) := by
  obtain ⟨k1, k2⟩ := h.kb.pass0 x
  exact ⟨h.lo, h.below.setCell (by show w.heap.size ≤ b8 + 2; have := h.lo; omega) _, hsl, hp.off k2, h.keep.pass (s := 0) (by decide) hx, k1, Nat.le_succ_of_le h.n0, Nat.le_succ_of_le h.n1⟩
theorem KI.pass1 {w : World} {b8 : Nat} {wr : World} {X : Nat → Prop} {va : Option Addr} {vc : Nat} {o : Nat → Int} {C sent got : Nat → List (List Cl)} {v0 v1 g0 g1 : Value} {i : Nat} (h : KI w b8 wr X va vc o C sent got v0 v1 g0 g1 i) {x : Int} (hx : 0 ≤ x ∧ x ≤ 2) {va' : Option Addr} {vc' : Nat} (hsl : SlA va' 2 vc') (hp : PtsSt X wr va' (two (upd o 1 x) C)) : KI w b8 (wr.setCell ⟨b8 + 2, 1, none⟩ (.int .i64 x)) X va' vc' (upd o 1 x) C sent got v0 v1 g0 g1 (i + 1) := by
  obtain ⟨k1, k2⟩ := h.kb.pass1 x
  exact ⟨h.lo, h.below.setCell (by show w.heap.size ≤ b8 + 2; have := h.lo; omega) _, hsl, hp.off k2, h.keep.pass (s := 1) (by decide) hx, k1, Nat.le_succ_of_le h.n0, Nat.le_succ_of_le h.n1⟩
def nilS : Value := .slice none 0 0
theorem KI.start {w w2 : World} {va : Option Addr} {vc : Nat} (hb : Below w.heap.size w w2) (hsl : SlA va 2 vc) (hp : PtsAt w2 va (two (fun _ => 0) (fun _ => []))) :
    KI w w2.heap.size (((w2.alloc (.cells #[.slice none 0 0, .slice none 0 0] 42)).alloc (.cells #[.slice none 0 0, .slice none 0 0] 42)).alloc (.cells #[.int .i64 0, .int .i64 0] 43)) (fun b => b = w2.heap.size ∨ b = w2.heap.size + 1 ∨ b = w2.heap.size + 2) va vc (fun _ => 0) (fun _ => []) (fun _ => []) (fun _ => []) nilS nilS nilS nilS 0 := by
  have e8 := heap_alloc_new w2 (.cells #[.slice none 0 0, .slice none 0 0] 42)
  have b1 : Below w2.heap.size w2 (((w2.alloc (.cells #[.slice none 0 0, .slice none 0 0] 42)).alloc (.cells #[.slice none 0 0, .slice none 0 0] 42)).alloc (.cells #[.int .i64 0, .int .i64 0] 43)) := (two_belowS _ _ _).trans ((one_belowS _ _).mono (by simp; omega))
  have hno : ∀ b, nilS.ownBlock ≠ some b := fun b h => by cases h
  refine ⟨hb.size, hb.trans (b1.mono hb.size), hsl, pts_stB hp (OffX.of_below b1) (fun b h => by omega), Keep.start, ⟨by simp, fun b h => by omega, fun b h => by simp; omega, Or.inl rfl, Or.inr (Or.inl rfl), Or.inr (Or.inr rfl), ?_, ?_, ?_, ⟨_, GRow.nil _ _ _⟩, ⟨_, GRow.nil _ _ _⟩, ⟨_, GRow.nil _ _ _⟩, ⟨_, GRow.nil _ _ _⟩, ?_, fun b h => absurd h (hno b), fun b h => absurd h (hno b), fun b h => absurd h (hno b)⟩, by simp, by simp⟩
  · rw [heap_alloc_old _ _ (by simp; omega), heap_alloc_old _ _ (by simp)]
    exact e8
  · rw [heap_alloc_old _ _ (by simp)]
    have := heap_alloc_new (w2.alloc (.cells #[.slice none 0 0, .slice none 0 0] 42)) (.cells #[.slice none 0 0, .slice none 0 0] 42)
    rw [World.size_alloc] at this
    exact this
  · have := heap_alloc_new ((w2.alloc (.cells #[.slice none 0 0, .slice none 0 0] 42)).alloc (.cells #[.slice none 0 0, .slice none 0 0] 42)) (.cells #[.int .i64 0, .int .i64 0] 43)
    rw [World.size_alloc, World.size_alloc] at this
    exact this
  · rintro v (rfl | rfl | rfl | rfl) b h
    all_goals exact absurd h (hno b)
theorem kLike (A B : List Cl) (hA : Right A) (hB : Right B) (he : copyF A = copyF B) (xa : Option Addr) (xc : Nat) (ya : Option Addr) (yc : Nat) (W : World) (h1 : ClsAt W xa A) (h2 : ClsAt W ya B) :
    Calls Try.prog 23 #[.agg #[.slice xa A.length xc], .agg #[.slice ya B.length yc]] W fun e w' => e = .returned (.tuple #[.bool true, .int .i64 0]) ∧ Below W.heap.size W w' := by
  have hl : likeE A B = 0 := by unfold likeE; rw [if_pos (gcheck_zero.2 hA), gcheck_zero.2 hB]
  refine (like_any xa ya xc yc A B W (by have := hA.few; omega) (by have := hB.few; omega) hA.big hB.big h1 h2).mono ?_
  rintro e w' ⟨r, rfl, hb, hr⟩
  exact ⟨by rw [hr.2 ⟨hl, he⟩, hl], hb⟩
theorem GRow.at {X : Nat → Prop} {B : Nat} {w : World} {p : Option Addr} {k : Nat} {D : List (List Cl)} {J : Nat → Value} (h : GRow X B w (.slice p D.length k) D J) {j : Nat} (hj : j < D.length) : ∃ b o xa xc, p = some ⟨b, o, none⟩ ∧ w.cell? ⟨b, o + j, none⟩ = some (.slice xa (gr D j).length xc) ∧ ClsAt w xa (gr D j) := by
  obtain ⟨a, c, e, hs, hg⟩ := grs_own h.row (fun i hi => h.val i hi w (OffX.refl X w))
  cases e
  exact hg j hj
end Go.Proofs.Ytgjfmepbphfjoaa
