/-
  Cells of boxes that were made, and what stays of them: they stand in Ba.
-/
import Derived.Test.YthlpkdmmkfhleacJTe
import Derived.Test.YthlpkdmmkfhleacJLdBa
import Derived.Test.YthlpkdmmkfhleacJRg
import Derived.Laws.AppendOwn


namespace Go.Proofs.Ythlpkdmmkfhleac
open Go.RowKit

theorem info46 : (Try.prog.info? 46).map (fun i => (i.zero, i.size, i.bytes)) = some (some (.agg #[.int .i64 0, .int .i64 0, .slice none 0 0]), 3, 40) := by kernel_rfl

def scell (s : Slt) (v : Value) : List Value := [.int .i64 s.pl, .int .i64 s.num, v]
def scells (L : List Slt) (K : Nat → Value) : List Value := (List.range L.length).flatMap fun i => scell (slt L i) (K i)

theorem slt_left {L : List Slt} {s : Slt} {i : Nat} (h : i < L.length) : slt (L ++ [s]) i = slt L i := by
  rw [slt_elem (by simp; omega), slt_elem h, List.getElem_append_left h]
theorem slt_last (L : List Slt) (s : Slt) : slt (L ++ [s]) L.length = s := by
  rw [slt_elem (by simp)]
  simp

theorem scells_snoc (L : List Slt) (K : Nat → Value) (s : Slt) (v : Value) : scells L K ++ scell s v = scells (L ++ [s]) (fun i => if i = L.length then v else K i) := by
  unfold scells
  rw [List.length_append, List.length_singleton, List.range_succ, List.flatMap_append]
  congr 1
  · refine flatMap_congr' (fun x hx => ?_)
    have hlt := List.mem_range.1 hx
    have : x ≠ L.length := by omega
    simp only [if_neg this]
    rw [slt_left hlt]
  · simp [slt_last]

/-- A row of slots of the call's own, and the rows of what is given. -/
def OwnS (B : Nat) (L : List Slt) (K : Nat → Value) (v : Value) (w : World) : Prop :=
  w.ownsRow B 46 3 v L.length (scells L K) ∧ ∀ i, i < L.length → w.ownsRow B 3 1 (K i) (slt L i).gv.length ((slt L i).gv.map (Value.int .i64))

theorem OwnS.other {B : Nat} {L : List Slt} {K : Nat → Value} {v : Value} {w w' : World} (h : OwnS B L K v w) (hb : ∀ b, B ≤ b → b < w.heap.size → w'.heap[b]? = w.heap[b]?) : OwnS B L K v w' :=
  ⟨owns_block h.1 (fun k hk => hb k (h.1.lt k hk).1 (h.1.lt k hk).2), fun i hi => owns_block (h.2 i hi) (fun k hk => hb k ((h.2 i hi).lt k hk).1 ((h.2 i hi).lt k hk).2)⟩

theorem OwnS.below {B : Nat} {L : List Slt} {K : Nat → Value} {v : Value} {w w' : World} (h : OwnS B L K v w) (hb : Below w.heap.size w w') : OwnS B L K v w' := h.other (fun b _ hlt => hb.block b hlt)

theorem OwnS.base {B B' : Nat} {L : List Slt} {K : Nat → Value} {v : Value} {w : World} (h : OwnS B L K v w) (hB : B' ≤ B) : OwnS B' L K v w := ⟨ownsRow_baseL h.1 hB, fun i hi => ownsRow_baseL (h.2 i hi) hB⟩

theorem scells_len (L : List Slt) (K : Nat → Value) : ∀ q, ((List.range q).flatMap fun i => scell (slt L i) (K i)).length = q * 3
  | 0 => rfl
  | q + 1 => by rw [List.range_succ, List.flatMap_append, List.length_append, scells_len L K q]; simp [scell]; omega

theorem scells_at (L : List Slt) (K : Nat → Value) {i j : Nat} (hj : j < 3) : ∀ {q : Nat}, i < q → ((List.range q).flatMap fun i => scell (slt L i) (K i))[i * 3 + j]? = (scell (slt L i) (K i))[j]?
  | 0, hi => by omega
  | q + 1, hi => by
    rw [List.range_succ, List.flatMap_append]
    by_cases e : i < q
    · rw [List.getElem?_append_left (by rw [scells_len]; omega)]
      exact scells_at L K hj e
    · have : i = q := by omega
      subst this
      rw [List.getElem?_append_right (by rw [scells_len]; omega), scells_len, show i * 3 + j - i * 3 = j by omega]
      simp

theorem OwnS.slts {B : Nat} {L : List Slt} {K : Nat → Value} {v : Value} {w : World} (h : OwnS B L K v w) : ∃ a c, v = .slice a L.length c ∧ SltsAt w a L := by
  obtain ⟨hm, hk⟩ := h
  have hm' := hm
  obtain ⟨hl, h⟩ := hm
  rcases h with ⟨rfl, h0⟩ | ⟨g, cap, cur, rfl, hb, hg, h1, h2, h3, h4⟩
  · exact ⟨none, 0, by rw [h0], fun i hi => by omega⟩
  · refine ⟨some ⟨g, 0, none⟩, cap, rfl, fun i hi => ⟨g, 0, rfl, ?_⟩⟩
    have hc : ∀ j, j < 3 → w.cell? ⟨g, i * 3 + j, none⟩ = (scell (slt L i) (K i))[j]? := fun j hj => by
      rw [← scells_at L K hj hi]
      exact hm'.cellAt (i * 3 + j) (by omega)
    obtain ⟨sa, sc, e1, e2⟩ := ints_own (hk i hi)
    rw [Nat.zero_add]
    refine ⟨hc 0 (by omega), hc 1 (by omega), sa, sc, ?_, e2⟩
    rw [hc 2 (by omega), e1]
    rfl

theorem OwnS.step {wr wp w3 : World} {B : Nat} {L : List Slt} {K : Nat → Value} {v v1 v2 : Value} {s : Slt} {o3 : Obj} (I : OwnS B L K v wr) (hB : B ≤ wr.heap.size) (hs : wr.heap.size ≤ wp.heap.size)
    (e : ∀ k, k < wr.heap.size → wp.heap[k]? = wr.heap[k]?) (own1 : wp.ownsRow wr.heap.size 3 1 v1 s.gv.length (s.gv.map (Value.int .i64)))
    (h3 : (wp.alloc o3).grownBy w3 v.ownBlock) (own3 : w3.ownsRow B 46 3 v2 (L.length + 1) (scells L K ++ scell s v1)) :
    OwnS B (L ++ [s]) (fun i => if i = L.length then v1 else K i) v2 w3 := by
  obtain ⟨hm, hk⟩ := I
  have e3 : ∀ k, k < wp.heap.size → v.ownBlock ≠ some k → w3.heap[k]? = wp.heap[k]? := fun k hk hk2 =>
    (h3.block k (by simp; omega) (fun e => hk2 e.symm)).trans (Below.heap_alloc _ _ _ hk)
  refine ⟨?_, fun i hi => ?_⟩
  · rw [← scells_snoc, List.length_append, List.length_singleton]
    exact own3
  · rw [List.length_append, List.length_singleton] at hi
    by_cases ei : i = L.length
    · subst ei
      simp only [if_true]
      rw [slt_last]
      refine owns_block (ownsRow_baseL own1 hB) (fun k hk => ?_)
      have hl := own1.lt k hk
      exact e3 k hl.2 (fun ek => by have := (hm.lt k ek).2; omega)
    · simp only [if_neg ei]
      have hi' : i < L.length := by omega
      rw [slt_left hi']
      have hkr := hk i hi'
      refine owns_block hkr (fun k hk => ?_)
      have hl := hkr.lt k hk
      exact (e3 k (by omega) (owns_apart hkr hm (by decide) k hk)).trans (e k hl.2)

theorem news3 {W : World} {b : Nat} {s : Slt} {v : Value} (c0 : W.cell? ⟨b, 0, none⟩ = some (.int .i64 s.pl)) (c1 : W.cell? ⟨b, 1, none⟩ = some (.int .i64 s.num)) (c2 : W.cell? ⟨b, 2, none⟩ = some v) : ∀ j u, (scell s v)[j]? = some u → W.cell? ((⟨b, 0, none⟩ : Addr).add j) = some u := fun j u hj => by
  unfold scell at hj
  rw [Addr.add_lit]
  match j, hj with
  | 0, hj => cases hj; exact c0
  | 1, hj => cases hj; exact c1
  | 2, hj => cases hj; exact c2

theorem one3 {s : Slt} {a : Option Addr} {n c : Nat} : ∀ u ∈ scell s (.slice a n c), u.oneCell' = true := fun u hu => by
  unfold scell at hu
  simp at hu
  rcases hu with rfl | rfl | rfl <;> rfl

set_option maxRecDepth 100000 in
set_option maxHeartbeats 1000000 in
theorem slotsOf_no (a : Option Addr) (c : Nat) (S : List Nd) (H : Int) (w : World) (hN : S.length ≤ 9223372036854775807) (hS : NdsAt w a S) (hr : rootE S H = -1) :
    Calls Try.prog 47 #[.agg #[.slice a S.length c], .int .i64 H] w fun e w' => e = .returned (.slice none 0 0) ∧ Below w.heap.size w w' := by
  have d := fun (W : World) (hW : NdsAt W a S) => rootOf_any a c S H W hN hW
  rw [hr] at d
  have D : Hid _ := d
  have HS : Hid (NdsAt w a S) := hS
  clear d hS hr
  generalize S.length = n at *
  go_enter Try.func47, Try.ntmps47
  go_wp2_with fail
  refine Calls.mono (D.out _ (HS.out.below ((Below.refl _ _).alloc (Nat.le_refl _) _))) ?_
  rintro e w1 ⟨rfl, hb⟩
  have HB1 : Hid (Below w.heap.size w w1) := ((Below.refl _ _).alloc (Nat.le_refl _) _).trans (hb.mono (by simp))
  clear hb
  go_wp2_with fail
  go_ret
  exact ⟨rfl, HB1.out⟩
end Go.Proofs.Ythlpkdmmkfhleac
