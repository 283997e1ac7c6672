/-
  What becomes of PortKeeps' memory when something is sent, comes, or is passed on.
-/
import Derived.Test.YtgjfmepbphfjoaaUPn
namespace Go.Proofs.Ytgjfmepbphfjoaa
open Go.RowKit Go.ChangeShapes Go.WideShapes
set_option linter.unusedVariables false

def addX (X : Nat → Prop) (v : Value) : Nat → Prop := fun b => X b ∨ v.ownBlock = some b

theorem KB.put_v0 {b8 : Nat} {u : World} {X : Nat → Prop} {o : Nat → Int} {sent got : Nat → List (List Cl)} {v0 v1 g0 g1 : Value} (hk : KB b8 u X o sent got v0 v1 g0 g1) {J : Nat → Value} (hJ : GRow X (b8 + 3) u v0 (sent 0) J) {u3 : World} {v' x : Value} {G : List Cl} (hrow : u3.ownsRow (b8 + 3) 25 1 v' ((sent 0).length + 1) (grow (sent 0).length J ++ [x])) (hg : u.grownBy u3 v0.ownBlock) (hat : v'.ownBlock = v0.ownBlock ∨ v'.ownBlock = some u.heap.size)
    (hx : ∀ w', OffX (addX X v') (u3.setCell ⟨b8, 0, none⟩ v') w' → GrV w' x G) :
    KB b8 (u3.setCell ⟨b8, 0, none⟩ v') (addX X v') o (upd sent 0 (sent 0 ++ [G])) got v' v1 g0 g1 ∧ OffX X u (u3.setCell ⟨b8, 0, none⟩ v') ∧ (∀ b, b < u.heap.size → addX X v' b → X b) := by
  have hz := hk.sz
  have hs := hg.size
  have hv' : ∀ b, v'.ownBlock = some b → b8 + 3 ≤ b ∧ b < u3.heap.size := fun b hb => hrow.lt b hb
  have hY : ∀ b, b < u.heap.size → addX X v' b → X b := fun b hb hy => by
    rcases hy with h | h
    · exact h
    · rcases hat with e | e
      · exact hk.own v0 (by simp) b (by rw [← e]; exact h)
      · rw [e] at h
        have := Option.some.inj h
        omega
  have hoff : OffX X u (u3.setCell ⟨b8, 0, none⟩ v') := (OffX.grown hg (fun b hb => hk.own v0 (by simp) b hb)).trans (OffX.set u3 v' hk.x8)
  have hblk : ∀ b, b < u.heap.size → v0.ownBlock ≠ some b → b ≠ b8 → (u3.setCell ⟨b8, 0, none⟩ v').heap[b]? = u.heap[b]? := fun b h1 h2 h3 => (Below.heap_setCell _ _ _ _ h3).trans (hg.block b h1 (fun e => h2 e.symm))
  have hlow : ∀ b, b < b8 + 3 → v0.ownBlock ≠ some b := fun b h1 h2 => by
    have := (hJ.row.lt b h2).1
    omega
  have hother : ∀ {y : Value} {D : List (List Cl)}, (∃ J, GRow X (b8 + 3) u y D J) → (∀ b, y.ownBlock = some b → v0.ownBlock ≠ some b) → ∃ J, GRow (addX X v') (b8 + 3) (u3.setCell ⟨b8, 0, none⟩ v') y D J := fun ⟨J', h'⟩ hd => ⟨J', h'.kept hoff hY (fun b hb => hblk b (h'.row.lt b hb).2 (hd b hb) (by have := (h'.row.lt b hb).1; omega))⟩
  have hself : ∃ J, GRow (addX X v') (b8 + 3) (u3.setCell ⟨b8, 0, none⟩ v') v' (sent 0 ++ [G]) J := ⟨_, hJ.more hoff hY (owns_block hrow (fun b hb => Below.heap_setCell _ _ _ _ (by have := (hv' b hb).1; show b ≠ b8; omega))) hx⟩
  have hnew : ∀ {y : Value} {D : List (List Cl)}, (∃ J, GRow X (b8 + 3) u y D J) → (∀ b, y.ownBlock = some b → v0.ownBlock ≠ some b) → ∀ b, v'.ownBlock = some b → y.ownBlock ≠ some b := fun hy hd b h1 h2 => by
    rcases hat with e | e
    · exact hd b h2 (by rw [← e]; exact h1)
    · rw [e] at h1
      have h3 := Option.some.inj h1
      have := (grow_block hy h2).2
      omega
  have e1 : ∀ b, v1.ownBlock = some b → v0.ownBlock ≠ some b := fun b h => (fun h9 => (hk.d01 b h9).1 h)
  have n1 := hnew hk.r1 e1
  have e2 : ∀ b, g0.ownBlock = some b → v0.ownBlock ≠ some b := fun b h => (fun h9 => (hk.d01 b h9).2.1 h)
  have n2 := hnew hk.q0 e2
  have e3 : ∀ b, g1.ownBlock = some b → v0.ownBlock ≠ some b := fun b h => (fun h9 => (hk.d01 b h9).2.2 h)
  have n3 := hnew hk.q1 e3
  refine ⟨⟨by simp; omega, fun b hy => ?_, fun b hy => ?_, Or.inl hk.x8, Or.inl hk.x9, Or.inl hk.x10, (by
    have h1 : u3.heap[b8]? = u.heap[b8]? := hg.block _ (by omega) (fun e => hlow _ (by omega) e.symm)
    exact two_set0 (h1.trans hk.s8)), (hblk _ (by omega) (hlow _ (by omega)) (by omega)).trans hk.s9, (hblk _ (by omega) (hlow _ (by omega)) (by omega)).trans hk.s10, by rw [upd_same]; exact hself, by rw [upd_other _ _ (by decide)]; exact hother hk.r1 e1, hother hk.q0 e2, hother hk.q1 e3, fun y hy b hb => ?_, fun b h => ⟨n1 b h, n2 b h, n3 b h⟩, fun b h => ⟨(hk.d12 b h).1, (hk.d12 b h).2⟩, fun b h => hk.d23 b h⟩, hoff, hY⟩
  · rcases hy with h | h
    · exact hk.xlo b h
    · have := (hv' b h).1; omega
  · rw [World.size_setCell]
    rcases hy with h | h
    · exact Nat.lt_of_lt_of_le (hk.xlt b h) hs
    · exact (hv' b h).2
  · rcases hy with rfl | rfl | rfl | rfl
    · exact Or.inr hb
    · exact Or.inl (hk.own _ (by simp) b hb)
    · exact Or.inl (hk.own _ (by simp) b hb)
    · exact Or.inl (hk.own _ (by simp) b hb)

theorem KB.put_v1 {b8 : Nat} {u : World} {X : Nat → Prop} {o : Nat → Int} {sent got : Nat → List (List Cl)} {v0 v1 g0 g1 : Value} (hk : KB b8 u X o sent got v0 v1 g0 g1) {J : Nat → Value} (hJ : GRow X (b8 + 3) u v1 (sent 1) J) {u3 : World} {v' x : Value} {G : List Cl} (hrow : u3.ownsRow (b8 + 3) 25 1 v' ((sent 1).length + 1) (grow (sent 1).length J ++ [x])) (hg : u.grownBy u3 v1.ownBlock) (hat : v'.ownBlock = v1.ownBlock ∨ v'.ownBlock = some u.heap.size)
    (hx : ∀ w', OffX (addX X v') (u3.setCell ⟨b8, 1, none⟩ v') w' → GrV w' x G) :
    KB b8 (u3.setCell ⟨b8, 1, none⟩ v') (addX X v') o (upd sent 1 (sent 1 ++ [G])) got v0 v' g0 g1 ∧ OffX X u (u3.setCell ⟨b8, 1, none⟩ v') ∧ (∀ b, b < u.heap.size → addX X v' b → X b) := by
  have hz := hk.sz
  have hs := hg.size
  have hv' : ∀ b, v'.ownBlock = some b → b8 + 3 ≤ b ∧ b < u3.heap.size := fun b hb => hrow.lt b hb
  have hY : ∀ b, b < u.heap.size → addX X v' b → X b := fun b hb hy => by
    rcases hy with h | h
    · exact h
    · rcases hat with e | e
      · exact hk.own v1 (by simp) b (by rw [← e]; exact h)
      · rw [e] at h
        have := Option.some.inj h
        omega
  have hoff : OffX X u (u3.setCell ⟨b8, 1, none⟩ v') := (OffX.grown hg (fun b hb => hk.own v1 (by simp) b hb)).trans (OffX.set u3 v' hk.x8)
  have hblk : ∀ b, b < u.heap.size → v1.ownBlock ≠ some b → b ≠ b8 → (u3.setCell ⟨b8, 1, none⟩ v').heap[b]? = u.heap[b]? := fun b h1 h2 h3 => (Below.heap_setCell _ _ _ _ h3).trans (hg.block b h1 (fun e => h2 e.symm))
  have hlow : ∀ b, b < b8 + 3 → v1.ownBlock ≠ some b := fun b h1 h2 => by
    have := (hJ.row.lt b h2).1
    omega
  have hother : ∀ {y : Value} {D : List (List Cl)}, (∃ J, GRow X (b8 + 3) u y D J) → (∀ b, y.ownBlock = some b → v1.ownBlock ≠ some b) → ∃ J, GRow (addX X v') (b8 + 3) (u3.setCell ⟨b8, 1, none⟩ v') y D J := fun ⟨J', h'⟩ hd => ⟨J', h'.kept hoff hY (fun b hb => hblk b (h'.row.lt b hb).2 (hd b hb) (by have := (h'.row.lt b hb).1; omega))⟩
  have hself : ∃ J, GRow (addX X v') (b8 + 3) (u3.setCell ⟨b8, 1, none⟩ v') v' (sent 1 ++ [G]) J := ⟨_, hJ.more hoff hY (owns_block hrow (fun b hb => Below.heap_setCell _ _ _ _ (by have := (hv' b hb).1; show b ≠ b8; omega))) hx⟩
  have hnew : ∀ {y : Value} {D : List (List Cl)}, (∃ J, GRow X (b8 + 3) u y D J) → (∀ b, y.ownBlock = some b → v1.ownBlock ≠ some b) → ∀ b, v'.ownBlock = some b → y.ownBlock ≠ some b := fun hy hd b h1 h2 => by
    rcases hat with e | e
    · exact hd b h2 (by rw [← e]; exact h1)
    · rw [e] at h1
      have h3 := Option.some.inj h1
      have := (grow_block hy h2).2
      omega
  have e0 : ∀ b, v0.ownBlock = some b → v1.ownBlock ≠ some b := fun b h => (hk.d01 b h).1
  have n0 := hnew hk.r0 e0
  have e2 : ∀ b, g0.ownBlock = some b → v1.ownBlock ≠ some b := fun b h => (fun h9 => (hk.d12 b h9).1 h)
  have n2 := hnew hk.q0 e2
  have e3 : ∀ b, g1.ownBlock = some b → v1.ownBlock ≠ some b := fun b h => (fun h9 => (hk.d12 b h9).2 h)
  have n3 := hnew hk.q1 e3
  refine ⟨⟨by simp; omega, fun b hy => ?_, fun b hy => ?_, Or.inl hk.x8, Or.inl hk.x9, Or.inl hk.x10, (by
    have h1 : u3.heap[b8]? = u.heap[b8]? := hg.block _ (by omega) (fun e => hlow _ (by omega) e.symm)
    exact two_set1 (h1.trans hk.s8)), (hblk _ (by omega) (hlow _ (by omega)) (by omega)).trans hk.s9, (hblk _ (by omega) (hlow _ (by omega)) (by omega)).trans hk.s10, by rw [upd_other _ _ (by decide)]; exact hother hk.r0 e0, by rw [upd_same]; exact hself, hother hk.q0 e2, hother hk.q1 e3, fun y hy b hb => ?_, fun b h => ⟨(fun h9 => n0 b h9 h), (hk.d01 b h).2.1, (hk.d01 b h).2.2⟩, fun b h => ⟨n2 b h, n3 b h⟩, fun b h => hk.d23 b h⟩, hoff, hY⟩
  · rcases hy with h | h
    · exact hk.xlo b h
    · have := (hv' b h).1; omega
  · rw [World.size_setCell]
    rcases hy with h | h
    · exact Nat.lt_of_lt_of_le (hk.xlt b h) hs
    · exact (hv' b h).2
  · rcases hy with rfl | rfl | rfl | rfl
    · exact Or.inl (hk.own _ (by simp) b hb)
    · exact Or.inr hb
    · exact Or.inl (hk.own _ (by simp) b hb)
    · exact Or.inl (hk.own _ (by simp) b hb)

theorem KB.put_g0 {b8 : Nat} {u : World} {X : Nat → Prop} {o : Nat → Int} {sent got : Nat → List (List Cl)} {v0 v1 g0 g1 : Value} (hk : KB b8 u X o sent got v0 v1 g0 g1) {J : Nat → Value} (hJ : GRow X (b8 + 3) u g0 (got 0) J) {u3 : World} {v' x : Value} {G : List Cl} (hrow : u3.ownsRow (b8 + 3) 25 1 v' ((got 0).length + 1) (grow (got 0).length J ++ [x])) (hg : u.grownBy u3 g0.ownBlock) (hat : v'.ownBlock = g0.ownBlock ∨ v'.ownBlock = some u.heap.size)
    (hx : ∀ w', OffX (addX X v') (u3.setCell ⟨(b8 + 1), 0, none⟩ v') w' → GrV w' x G) :
    KB b8 (u3.setCell ⟨(b8 + 1), 0, none⟩ v') (addX X v') o sent (upd got 0 (got 0 ++ [G])) v0 v1 v' g1 ∧ OffX X u (u3.setCell ⟨(b8 + 1), 0, none⟩ v') ∧ (∀ b, b < u.heap.size → addX X v' b → X b) := by
  have hz := hk.sz
  have hs := hg.size
  have hv' : ∀ b, v'.ownBlock = some b → b8 + 3 ≤ b ∧ b < u3.heap.size := fun b hb => hrow.lt b hb
  have hY : ∀ b, b < u.heap.size → addX X v' b → X b := fun b hb hy => by
    rcases hy with h | h
    · exact h
    · rcases hat with e | e
      · exact hk.own g0 (by simp) b (by rw [← e]; exact h)
      · rw [e] at h
        have := Option.some.inj h
        omega
  have hoff : OffX X u (u3.setCell ⟨(b8 + 1), 0, none⟩ v') := (OffX.grown hg (fun b hb => hk.own g0 (by simp) b hb)).trans (OffX.set u3 v' hk.x9)
  have hblk : ∀ b, b < u.heap.size → g0.ownBlock ≠ some b → b ≠ (b8 + 1) → (u3.setCell ⟨(b8 + 1), 0, none⟩ v').heap[b]? = u.heap[b]? := fun b h1 h2 h3 => (Below.heap_setCell _ _ _ _ h3).trans (hg.block b h1 (fun e => h2 e.symm))
  have hlow : ∀ b, b < b8 + 3 → g0.ownBlock ≠ some b := fun b h1 h2 => by
    have := (hJ.row.lt b h2).1
    omega
  have hother : ∀ {y : Value} {D : List (List Cl)}, (∃ J, GRow X (b8 + 3) u y D J) → (∀ b, y.ownBlock = some b → g0.ownBlock ≠ some b) → ∃ J, GRow (addX X v') (b8 + 3) (u3.setCell ⟨(b8 + 1), 0, none⟩ v') y D J := fun ⟨J', h'⟩ hd => ⟨J', h'.kept hoff hY (fun b hb => hblk b (h'.row.lt b hb).2 (hd b hb) (by have := (h'.row.lt b hb).1; omega))⟩
  have hself : ∃ J, GRow (addX X v') (b8 + 3) (u3.setCell ⟨(b8 + 1), 0, none⟩ v') v' (got 0 ++ [G]) J := ⟨_, hJ.more hoff hY (owns_block hrow (fun b hb => Below.heap_setCell _ _ _ _ (by have := (hv' b hb).1; show b ≠ (b8 + 1); omega))) hx⟩
  have hnew : ∀ {y : Value} {D : List (List Cl)}, (∃ J, GRow X (b8 + 3) u y D J) → (∀ b, y.ownBlock = some b → g0.ownBlock ≠ some b) → ∀ b, v'.ownBlock = some b → y.ownBlock ≠ some b := fun hy hd b h1 h2 => by
    rcases hat with e | e
    · exact hd b h2 (by rw [← e]; exact h1)
    · rw [e] at h1
      have h3 := Option.some.inj h1
      have := (grow_block hy h2).2
      omega
  have e0 : ∀ b, v0.ownBlock = some b → g0.ownBlock ≠ some b := fun b h => (hk.d01 b h).2.1
  have n0 := hnew hk.r0 e0
  have e1 : ∀ b, v1.ownBlock = some b → g0.ownBlock ≠ some b := fun b h => (hk.d12 b h).1
  have n1 := hnew hk.r1 e1
  have e3 : ∀ b, g1.ownBlock = some b → g0.ownBlock ≠ some b := fun b h => (fun h9 => hk.d23 b h9 h)
  have n3 := hnew hk.q1 e3
  refine ⟨⟨by simp; omega, fun b hy => ?_, fun b hy => ?_, Or.inl hk.x8, Or.inl hk.x9, Or.inl hk.x10, (hblk _ (by omega) (hlow _ (by omega)) (by omega)).trans hk.s8, (by
    have h1 : u3.heap[(b8 + 1)]? = u.heap[(b8 + 1)]? := hg.block _ (by omega) (fun e => hlow _ (by omega) e.symm)
    exact two_set0 (h1.trans hk.s9)), (hblk _ (by omega) (hlow _ (by omega)) (by omega)).trans hk.s10, hother hk.r0 e0, hother hk.r1 e1, by rw [upd_same]; exact hself, by rw [upd_other _ _ (by decide)]; exact hother hk.q1 e3, fun y hy b hb => ?_, fun b h => ⟨(hk.d01 b h).1, (fun h9 => n0 b h9 h), (hk.d01 b h).2.2⟩, fun b h => ⟨(fun h9 => n1 b h9 h), (hk.d12 b h).2⟩, fun b h => n3 b h⟩, hoff, hY⟩
  · rcases hy with h | h
    · exact hk.xlo b h
    · have := (hv' b h).1; omega
  · rw [World.size_setCell]
    rcases hy with h | h
    · exact Nat.lt_of_lt_of_le (hk.xlt b h) hs
    · exact (hv' b h).2
  · rcases hy with rfl | rfl | rfl | rfl
    · exact Or.inl (hk.own _ (by simp) b hb)
    · exact Or.inl (hk.own _ (by simp) b hb)
    · exact Or.inr hb
    · exact Or.inl (hk.own _ (by simp) b hb)

theorem KB.put_g1 {b8 : Nat} {u : World} {X : Nat → Prop} {o : Nat → Int} {sent got : Nat → List (List Cl)} {v0 v1 g0 g1 : Value} (hk : KB b8 u X o sent got v0 v1 g0 g1) {J : Nat → Value} (hJ : GRow X (b8 + 3) u g1 (got 1) J) {u3 : World} {v' x : Value} {G : List Cl} (hrow : u3.ownsRow (b8 + 3) 25 1 v' ((got 1).length + 1) (grow (got 1).length J ++ [x])) (hg : u.grownBy u3 g1.ownBlock) (hat : v'.ownBlock = g1.ownBlock ∨ v'.ownBlock = some u.heap.size)
    (hx : ∀ w', OffX (addX X v') (u3.setCell ⟨(b8 + 1), 1, none⟩ v') w' → GrV w' x G) :
    KB b8 (u3.setCell ⟨(b8 + 1), 1, none⟩ v') (addX X v') o sent (upd got 1 (got 1 ++ [G])) v0 v1 g0 v' ∧ OffX X u (u3.setCell ⟨(b8 + 1), 1, none⟩ v') ∧ (∀ b, b < u.heap.size → addX X v' b → X b) := by
  have hz := hk.sz
  have hs := hg.size
  have hv' : ∀ b, v'.ownBlock = some b → b8 + 3 ≤ b ∧ b < u3.heap.size := fun b hb => hrow.lt b hb
  have hY : ∀ b, b < u.heap.size → addX X v' b → X b := fun b hb hy => by
    rcases hy with h | h
    · exact h
    · rcases hat with e | e
      · exact hk.own g1 (by simp) b (by rw [← e]; exact h)
      · rw [e] at h
        have := Option.some.inj h
        omega
  have hoff : OffX X u (u3.setCell ⟨(b8 + 1), 1, none⟩ v') := (OffX.grown hg (fun b hb => hk.own g1 (by simp) b hb)).trans (OffX.set u3 v' hk.x9)
  have hblk : ∀ b, b < u.heap.size → g1.ownBlock ≠ some b → b ≠ (b8 + 1) → (u3.setCell ⟨(b8 + 1), 1, none⟩ v').heap[b]? = u.heap[b]? := fun b h1 h2 h3 => (Below.heap_setCell _ _ _ _ h3).trans (hg.block b h1 (fun e => h2 e.symm))
  have hlow : ∀ b, b < b8 + 3 → g1.ownBlock ≠ some b := fun b h1 h2 => by
    have := (hJ.row.lt b h2).1
    omega
  have hother : ∀ {y : Value} {D : List (List Cl)}, (∃ J, GRow X (b8 + 3) u y D J) → (∀ b, y.ownBlock = some b → g1.ownBlock ≠ some b) → ∃ J, GRow (addX X v') (b8 + 3) (u3.setCell ⟨(b8 + 1), 1, none⟩ v') y D J := fun ⟨J', h'⟩ hd => ⟨J', h'.kept hoff hY (fun b hb => hblk b (h'.row.lt b hb).2 (hd b hb) (by have := (h'.row.lt b hb).1; omega))⟩
  have hself : ∃ J, GRow (addX X v') (b8 + 3) (u3.setCell ⟨(b8 + 1), 1, none⟩ v') v' (got 1 ++ [G]) J := ⟨_, hJ.more hoff hY (owns_block hrow (fun b hb => Below.heap_setCell _ _ _ _ (by have := (hv' b hb).1; show b ≠ (b8 + 1); omega))) hx⟩
  have hnew : ∀ {y : Value} {D : List (List Cl)}, (∃ J, GRow X (b8 + 3) u y D J) → (∀ b, y.ownBlock = some b → g1.ownBlock ≠ some b) → ∀ b, v'.ownBlock = some b → y.ownBlock ≠ some b := fun hy hd b h1 h2 => by
    rcases hat with e | e
    · exact hd b h2 (by rw [← e]; exact h1)
    · rw [e] at h1
      have h3 := Option.some.inj h1
      have := (grow_block hy h2).2
      omega
  have e0 : ∀ b, v0.ownBlock = some b → g1.ownBlock ≠ some b := fun b h => (hk.d01 b h).2.2
  have n0 := hnew hk.r0 e0
  have e1 : ∀ b, v1.ownBlock = some b → g1.ownBlock ≠ some b := fun b h => (hk.d12 b h).2
  have n1 := hnew hk.r1 e1
  have e2 : ∀ b, g0.ownBlock = some b → g1.ownBlock ≠ some b := fun b h => hk.d23 b h
  have n2 := hnew hk.q0 e2
  refine ⟨⟨by simp; omega, fun b hy => ?_, fun b hy => ?_, Or.inl hk.x8, Or.inl hk.x9, Or.inl hk.x10, (hblk _ (by omega) (hlow _ (by omega)) (by omega)).trans hk.s8, (by
    have h1 : u3.heap[(b8 + 1)]? = u.heap[(b8 + 1)]? := hg.block _ (by omega) (fun e => hlow _ (by omega) e.symm)
    exact two_set1 (h1.trans hk.s9)), (hblk _ (by omega) (hlow _ (by omega)) (by omega)).trans hk.s10, hother hk.r0 e0, hother hk.r1 e1, by rw [upd_other _ _ (by decide)]; exact hother hk.q0 e2, by rw [upd_same]; exact hself, fun y hy b hb => ?_, fun b h => ⟨(hk.d01 b h).1, (hk.d01 b h).2.1, (fun h9 => n0 b h9 h)⟩, fun b h => ⟨(hk.d12 b h).1, (fun h9 => n1 b h9 h)⟩, fun b h => (fun h9 => n2 b h9 h)⟩, hoff, hY⟩
  · rcases hy with h | h
    · exact hk.xlo b h
    · have := (hv' b h).1; omega
  · rw [World.size_setCell]
    rcases hy with h | h
    · exact Nat.lt_of_lt_of_le (hk.xlt b h) hs
    · exact (hv' b h).2
  · rcases hy with rfl | rfl | rfl | rfl
    · exact Or.inl (hk.own _ (by simp) b hb)
    · exact Or.inl (hk.own _ (by simp) b hb)
    · exact Or.inl (hk.own _ (by simp) b hb)
    · exact Or.inr hb

theorem KB.pass0 {b8 : Nat} {u : World} {X : Nat → Prop} {o : Nat → Int} {sent got : Nat → List (List Cl)} {v0 v1 g0 g1 : Value} (hk : KB b8 u X o sent got v0 v1 g0 g1) (x : Int) : KB b8 (u.setCell ⟨b8 + 2, 0, none⟩ (.int .i64 x)) X (upd o 0 x) sent got v0 v1 g0 g1 ∧ OffX X u (u.setCell ⟨b8 + 2, 0, none⟩ (.int .i64 x)) := by
  have hz := hk.sz
  have hoff : OffX X u (u.setCell ⟨b8 + 2, 0, none⟩ (.int .i64 x)) := OffX.set u _ hk.x10
  have hblk : ∀ b, b ≠ b8 + 2 → (u.setCell ⟨b8 + 2, 0, none⟩ (.int .i64 x)).heap[b]? = u.heap[b]? := fun b h => Below.heap_setCell _ _ _ _ h
  have kp : ∀ {v : Value} {D : List (List Cl)}, (∃ J, GRow X (b8 + 3) u v D J) → ∃ J, GRow X (b8 + 3) (u.setCell ⟨b8 + 2, 0, none⟩ (.int .i64 x)) v D J := fun ⟨J, hJ⟩ => ⟨J, hJ.kept hoff (fun _ _ hx => hx) (fun b hv => hblk b (by have := (hJ.row.lt b hv).1; omega))⟩
  exact ⟨⟨by simp; omega, hk.xlo, fun b hx => by rw [World.size_setCell]; exact hk.xlt b hx, hk.x8, hk.x9, hk.x10, (hblk _ (by omega)).trans hk.s8, (hblk _ (by omega)).trans hk.s9, by rw [two_set0 hk.s10]; rfl, kp hk.r0, kp hk.r1, kp hk.q0, kp hk.q1, hk.own, hk.d01, hk.d12, hk.d23⟩, hoff⟩

theorem KB.pass1 {b8 : Nat} {u : World} {X : Nat → Prop} {o : Nat → Int} {sent got : Nat → List (List Cl)} {v0 v1 g0 g1 : Value} (hk : KB b8 u X o sent got v0 v1 g0 g1) (x : Int) : KB b8 (u.setCell ⟨b8 + 2, 1, none⟩ (.int .i64 x)) X (upd o 1 x) sent got v0 v1 g0 g1 ∧ OffX X u (u.setCell ⟨b8 + 2, 1, none⟩ (.int .i64 x)) := by
  have hz := hk.sz
  have hoff : OffX X u (u.setCell ⟨b8 + 2, 1, none⟩ (.int .i64 x)) := OffX.set u _ hk.x10
  have hblk : ∀ b, b ≠ b8 + 2 → (u.setCell ⟨b8 + 2, 1, none⟩ (.int .i64 x)).heap[b]? = u.heap[b]? := fun b h => Below.heap_setCell _ _ _ _ h
  have kp : ∀ {v : Value} {D : List (List Cl)}, (∃ J, GRow X (b8 + 3) u v D J) → ∃ J, GRow X (b8 + 3) (u.setCell ⟨b8 + 2, 1, none⟩ (.int .i64 x)) v D J := fun ⟨J, hJ⟩ => ⟨J, hJ.kept hoff (fun _ _ hx => hx) (fun b hv => hblk b (by have := (hJ.row.lt b hv).1; omega))⟩
  exact ⟨⟨by simp; omega, hk.xlo, fun b hx => by rw [World.size_setCell]; exact hk.xlt b hx, hk.x8, hk.x9, hk.x10, (hblk _ (by omega)).trans hk.s8, (hblk _ (by omega)).trans hk.s9, by rw [two_set1 hk.s10]; rfl, kp hk.r0, kp hk.r1, kp hk.q0, kp hk.q1, hk.own, hk.d01, hk.d12, hk.d23⟩, hoff⟩

end Go.Proofs.Ytgjfmepbphfjoaa
