/-
  A list of nodes that lies somewhere in memory; who stands in whose children: what kidsFit reckons, without the program.
-/
import Derived.Test.YtcohimljgjlkdaaSd
namespace Go.Proofs.Ytcohimljgjlkdaa
open Go.RowKit

def nd (S : List Nd) (i : Nat) : Nd := S.getD i zeroNd

def NdAt (w : World) (b o : Nat) (x : Nd) : Prop :=
  w.cell? ⟨b, o, none⟩ = some (.bool x.u) ∧ w.cell? ⟨b, o + 1, none⟩ = some (.int .i64 x.n) ∧ w.cell? ⟨b, o + 2, none⟩ = some (.int .i64 x.t) ∧ w.cell? ⟨b, o + 3, none⟩ = some (.int .i64 x.m) ∧
  w.cell? ⟨b, o + 4, none⟩ = some (.int .i64 x.p) ∧ (∃ ka kc, w.cell? ⟨b, o + 5, none⟩ = some (.slice ka x.ks.length kc) ∧ IntsAt w ka x.ks) ∧ w.cell? ⟨b, o + 6, none⟩ = some (.int .i64 x.h) ∧ w.cell? ⟨b, o + 7, none⟩ = some (.bool x.c)

theorem NdAt.below {w w' : World} {b o : Nat} {x : Nd} (h : NdAt w b o x) (hb : Below w.heap.size w w') : NdAt w' b o x := by
  obtain ⟨c0, c1, c2, c3, c4, ⟨ka, kc, c5, hk⟩, c6, c7⟩ := h
  have hlt : b < w.heap.size := World.block_lt_of_cell? w ⟨b, o, none⟩ c0
  exact ⟨(hb.cell hlt).trans c0, (hb.cell hlt).trans c1, (hb.cell hlt).trans c2, (hb.cell hlt).trans c3, (hb.cell hlt).trans c4, ⟨ka, kc, (hb.cell hlt).trans c5, hk.below hb⟩, (hb.cell hlt).trans c6, (hb.cell hlt).trans c7⟩

/-- A slice of nodes: its length is the list's; where it has any, it leads to their cells. -/
def NdsAt (w : World) (a : Option Addr) (S : List Nd) : Prop :=
  ∀ i, i < S.length → ∃ b o, a = some ⟨b, o, none⟩ ∧ NdAt w b (o + i * 8) (nd S i)

theorem NdsAt.below {w w' : World} {a : Option Addr} {S : List Nd} (h : NdsAt w a S) (hb : Below w.heap.size w w') : NdsAt w' a S := fun i hi => by
  obtain ⟨b, o, e, hn⟩ := h i hi
  exact ⟨b, o, e, hn.below hb⟩

/-- No list of children is longer than a slice can be. -/
def Big (S : List Nd) : Prop := ∀ i, i < S.length → (nd S i).ks.length ≤ 9223372036854775807

def FitK (S : List Nd) (i : Nat) (x : Int) : Prop := x ≠ -1 ∧ (nd S x.toNat).u = true ∧ (nd S x.toNat).p = i
def FitU (S : List Nd) (k : Nat) : Prop := ∀ i, i < k → ∀ x ∈ (nd S i).ks, FitK S i x
def cntU (S : List Nd) (k j : Nat) : Nat := ((S.take k).flatMap Nd.ks).count (j : Int)
def cntK (l : List Int) (q j : Nat) : Nat := (l.take q).count (j : Int)
def KidsOk (S : List Nd) : Prop := FitU S S.length ∧ ∀ j, j < S.length → cntU S S.length j ≤ 1 ∧ ((nd S j).p ≠ -1 → cntU S S.length j ≠ 0)

theorem nd_elem {S : List Nd} {i : Nat} (h : i < S.length) : nd S i = S[i] := getD_elem S zeroNd h

theorem cntU_zero (S : List Nd) (j : Nat) : cntU S 0 j = 0 := by simp [cntU]
theorem cntU_succ (S : List Nd) (k j : Nat) (h : k < S.length) : cntU S (k + 1) j = cntU S k j + (nd S k).ks.count (j : Int) := by
  unfold cntU
  rw [List.take_succ_eq_append_getElem h, List.flatMap_append, List.count_append, nd_elem h]
  simp
theorem cntK_zero (l : List Int) (j : Nat) : cntK l 0 j = 0 := by simp [cntK]
theorem cntK_all (l : List Int) (j : Nat) : cntK l l.length j = l.count (j : Int) := by simp [cntK]
theorem cntK_succ (l : List Int) (q j : Nat) (h : q < l.length) : cntK l (q + 1) j = cntK l q j + (if l.getD q 0 = (j : Int) then 1 else 0) := by
  unfold cntK
  rw [List.take_succ_eq_append_getElem h, List.count_append, getD_elem l 0 h]
  by_cases e : l[q] = (j : Int) <;> simp [e]
theorem cntK_le (l : List Int) (q j : Nat) : cntK l q j ≤ q := by
  unfold cntK
  exact Nat.le_trans List.count_le_length (by rw [List.length_take]; omega)

theorem cntU_other (S : List Nd) (k j : Nat) (hk : k ≤ S.length) (hF : FitU S k) (hp : (nd S j).p = k) : cntU S k j = 0 := by
  unfold cntU
  rw [List.count_eq_zero]
  intro hm
  obtain ⟨y, hy, hj⟩ := List.mem_flatMap.1 hm
  obtain ⟨i, hi, rfl⟩ := List.getElem_of_mem hy
  rw [List.length_take] at hi
  have h3 := hF i (by omega) (j : Int) (by rw [nd_elem (by omega)]; simpa using hj)
  have := h3.2.2
  simp only [Int.toNat_natCast] at this
  omega
end Go.Proofs.Ytcohimljgjlkdaa
