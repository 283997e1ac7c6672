/-
  What PortKeeps has in memory of its own: what was sent, what came, who has each port.
-/
import Derived.Test.YtgjfmepbphfjoaaUPx
import Derived.Test.YtgjfmepbphfjoaaUPm
import Derived.Test.YtgjfmepbphfjoaaUPg
import Derived.Maps.AppendAt
namespace Go.Proofs.Ytgjfmepbphfjoaa
open Go.RowKit Go.ChangeShapes Go.WideShapes
set_option linter.unusedVariables false

/-- append onto a row of the call's own, in a region that draws; where the row lies then. -/
theorem step_append_at {P : Program} {ops : Array Oper} {o : Oper} {a : Act} {w : World} {K : Act → World → Prop} {Q : Exit → Act → World → Prop} {E : Prop}
    (hg : o.guard = none) (s x : Operand) (t : TypeId) (hop : o.op = Op.call { callee := Callee.builtin Builtin.append, args := #[s, x], argTypes := #[t, t] })
    (base : Nat) (e : TypeId) (i : TypeInfo) (z : Value) (size bytes : Nat) (h1 : P.underlying t = some (.slice e)) (h2 : P.info? e = some i) (h3 : i.zero = some z) (h4 : i.size = size) (h5 : i.bytes = bytes) (h6 : z.cells.size = size) (h7 : 0 < size)
    (v : Value) (n : Nat) (xs : List Value) (hs : a.eval s = v) (hown : w.ownsRow base e size v n xs)
    (ad : Addr) (m c : Nat) (news : List Value) (hx : a.eval x = .slice (some ad) m c) (hn : news.length = m * size) (hc : ∀ j u, news[j]? = some u → w.cell? (ad.add j) = some u) (h1c : ∀ u ∈ news, u.oneCell' = true)
    (b1 : n + m ≤ maxLen) (b2 : (n + m) * bytes ≤ 140737488355328) (hbase : base ≤ w.heap.size)
    (hK : ∀ v' w', w'.ownsRow base e size v' (n + m) (xs ++ news) → w.grownBy w' v.ownBlock → (v'.ownBlock = v.ownBlock ∨ v'.ownBlock = some w.heap.size) → K (a.put o.dst v') w') :
    if Region.wanted o (yielded ops a.tmps) = true then Oper.wp P o a w K Q else E := by
  have hw : Region.wanted o (yielded ops a.tmps) = true := by simp [Region.wanted, hg]
  rw [if_pos hw]
  obtain ⟨v', w', hr, r2, r3, _, r5⟩ := run_append_own_at (P := P) w base t o.type e i z size bytes h1 h2 h3 h4 h5 h6 h7 v n xs hown ad m c news hn hc h1c b1 b2 hbase
  unfold Oper.wp execOp
  simp only [hop, resolve, invoke, builtin, Sem.run_bind, Sem.run_pure, Result.andThen_ok, List.map_toArray, List.map_cons, List.map_nil, hs, hx, hr]
  exact hK v' w' r2 r3 r5

/-- A row of graphs of the call's own, whatever becomes of X. -/
structure GRow (X : Nat → Prop) (B : Nat) (w : World) (v : Value) (D : List (List Cl)) (J : Nat → Value) : Prop where
  row : w.ownsRow B 25 1 v D.length (grow D.length J)
  val : ∀ i, i < D.length → ∀ w', OffX X w w' → GrV w' (J i) (gr D i)
theorem GRow.nil (X : Nat → Prop) (B : Nat) (w : World) : GRow X B w (.slice none 0 0) [] (fun _ => undef) := ⟨World.ownsRow_nil _ _ _ _, fun i hi => absurd hi (Nat.not_lt_zero _)⟩
/-- Elsewhere something changes: X grows by what was not there, and this row's block stays. -/
theorem GRow.kept {X Y : Nat → Prop} {B : Nat} {w w1 : World} {v : Value} {D : List (List Cl)} {J : Nat → Value} (h : GRow X B w v D J) (ho : OffX X w w1) (hY : ∀ b, b < w.heap.size → Y b → X b) (hv : ∀ b, v.ownBlock = some b → w1.heap[b]? = w.heap[b]?) : GRow Y B w1 v D J :=
  ⟨owns_block h.row hv, fun i hi w' h2 => h.val i hi w' (off_grow ho.size ho.block hY h2)⟩
theorem GRow.more {X Y : Nat → Prop} {B : Nat} {w w1 : World} {v v1 x : Value} {D : List (List Cl)} {J : Nat → Value} {G : List Cl} (h : GRow X B w v D J) (ho : OffX X w w1) (hY : ∀ b, b < w.heap.size → Y b → X b) (hrow : w1.ownsRow B 25 1 v1 (D.length + 1) (grow D.length J ++ [x])) (hx : ∀ w', OffX Y w1 w' → GrV w' x G) : GRow Y B w1 v1 (D ++ [G]) (fun i => if i = D.length then x else J i) := by
  have hl : (D ++ [G]).length = D.length + 1 := by simp
  refine ⟨by rw [hl, ← grow_snoc]; exact hrow, fun i hi w' h2 => ?_⟩
  rw [hl] at hi
  by_cases e : i < D.length
  · rw [if_neg (by omega), gr_left e]
    exact h.val i e w' (off_grow ho.size ho.block hY h2)
  · have e2 : i = D.length := by omega
    rw [if_pos e2, e2, gr_last]
    exact hx w' h2

/-- The boxes of PortKeeps: b8 (what was sent), b8 + 1 (what came), b8 + 2 (who has it), and their rows. -/
structure KB (b8 : Nat) (wr : World) (X : Nat → Prop) (o : Nat → Int) (sent got : Nat → List (List Cl)) (v0 v1 g0 g1 : Value) : Prop where
  sz : b8 + 3 ≤ wr.heap.size
  xlo : ∀ b, X b → b8 ≤ b
  xlt : ∀ b, X b → b < wr.heap.size
  x8 : X b8
  x9 : X (b8 + 1)
  x10 : X (b8 + 2)
  s8 : wr.heap[b8]? = some (.cells #[v0, v1] 42 (0, 0))
  s9 : wr.heap[b8 + 1]? = some (.cells #[g0, g1] 42 (0, 0))
  s10 : wr.heap[b8 + 2]? = some (.cells #[.int .i64 (o 0), .int .i64 (o 1)] 43 (0, 0))
  r0 : ∃ J, GRow X (b8 + 3) wr v0 (sent 0) J
  r1 : ∃ J, GRow X (b8 + 3) wr v1 (sent 1) J
  q0 : ∃ J, GRow X (b8 + 3) wr g0 (got 0) J
  q1 : ∃ J, GRow X (b8 + 3) wr g1 (got 1) J
  own : ∀ v, v = v0 ∨ v = v1 ∨ v = g0 ∨ v = g1 → ∀ b, v.ownBlock = some b → X b
  d01 : ∀ b, v0.ownBlock = some b → v1.ownBlock ≠ some b ∧ g0.ownBlock ≠ some b ∧ g1.ownBlock ≠ some b
  d12 : ∀ b, v1.ownBlock = some b → g0.ownBlock ≠ some b ∧ g1.ownBlock ≠ some b
  d23 : ∀ b, g0.ownBlock = some b → g1.ownBlock ≠ some b
theorem two_cells {w : World} {b t : Nat} {x y : Value} (h : w.heap[b]? = some (.cells #[x, y] t (0, 0))) : w.cell? ⟨b, 0, none⟩ = some x ∧ w.cell? ⟨b, 1, none⟩ = some y ∧ w.frozen? ⟨b, 0, none⟩ = false ∧ w.frozen? ⟨b, 1, none⟩ = false := by
  refine ⟨?_, ?_, ?_, ?_⟩
  · simp [World.cell?, h]
  · simp [World.cell?, h]
  · simp [World.frozen?, h]
  · simp [World.frozen?, h]
theorem two_set0 {w : World} {b t : Nat} {x y z : Value} (h : w.heap[b]? = some (.cells #[x, y] t (0, 0))) : (w.setCell ⟨b, 0, none⟩ z).heap[b]? = some (.cells #[z, y] t (0, 0)) := by
  show (w.heap.modify b _)[b]? = _
  rw [Array.getElem?_modify, if_pos rfl, h]
  rfl
theorem two_set1 {w : World} {b t : Nat} {x y z : Value} (h : w.heap[b]? = some (.cells #[x, y] t (0, 0))) : (w.setCell ⟨b, 1, none⟩ z).heap[b]? = some (.cells #[x, z] t (0, 0)) := by
  show (w.heap.modify b _)[b]? = _
  rw [Array.getElem?_modify, if_pos rfl, h]
  rfl
theorem KB.below {b8 : Nat} {wr w1 : World} {X : Nat → Prop} {o : Nat → Int} {sent got : Nat → List (List Cl)} {v0 v1 g0 g1 : Value} (h : KB b8 wr X o sent got v0 v1 g0 g1) (hb : Below wr.heap.size wr w1) : KB b8 w1 X o sent got v0 v1 g0 g1 := by
  have hs := hb.size
  have hz := h.sz
  have kp : ∀ {v : Value} {D : List (List Cl)}, (∃ J, GRow X (b8 + 3) wr v D J) → ∃ J, GRow X (b8 + 3) w1 v D J := fun ⟨J, hJ⟩ => ⟨J, hJ.kept (OffX.of_below hb) (fun _ _ hx => hx) (fun b hv => hb.block b (hJ.row.lt b hv).2)⟩
  exact ⟨by omega, h.xlo, fun b hx => Nat.lt_of_lt_of_le (h.xlt b hx) hs, h.x8, h.x9, h.x10, (hb.block _ (by omega)).trans h.s8, (hb.block _ (by omega)).trans h.s9, (hb.block _ (by omega)).trans h.s10, kp h.r0, kp h.r1, kp h.q0, kp h.q1, h.own, h.d01, h.d12, h.d23⟩
theorem grow_block {b8 : Nat} {w : World} {X : Nat → Prop} {v : Value} {D : List (List Cl)} (h : ∃ J, GRow X (b8 + 3) w v D J) {b : Nat} (hv : v.ownBlock = some b) : b8 + 3 ≤ b ∧ b < w.heap.size := by
  obtain ⟨J, hJ⟩ := h
  exact hJ.row.lt b hv
end Go.Proofs.Ytgjfmepbphfjoaa
