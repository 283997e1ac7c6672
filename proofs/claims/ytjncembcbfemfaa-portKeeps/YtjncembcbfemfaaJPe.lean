/-
  Rows of ports of a call's own; the reference's changed.
-/
import Derived.Test.YtjncembcbfemfaaJPd
import Derived.Laws.AppendOwn
import Derived.Laws.OwnMore
import Derived.Laws.AppendOwnNone
import Derived.Deep.RegionHeld3
namespace Go.Proofs.Ytjncembcbfemfaa
open Go.RowKit Go.ChangeShapes Go.WideShapes
set_option linter.unusedVariables false

set_option maxRecDepth 100000 in
theorem infoPort : (Try.prog.info? 42).map (fun i => (i.zero, i.size, i.bytes)) = some (some (.agg #[.int .i64 0, .int .i64 0, .int .i64 0, .slice none 0 0, .bool false]), 5, 56) := by kernel_rfl

def pcell (x : Pt) (v : Value) : List Value := [.int .i64 x.o, .int .i64 x.t, .int .i64 x.m, v, .bool x.s]
def pcells (L : List Pt) (K : Nat → Value) : List Value := (List.range L.length).flatMap fun i => pcell (pt L i) (K i)
theorem pcell_len (x : Pt) (v : Value) : (pcell x v).length = 5 := rfl
theorem prange_len (L : List Pt) (K : Nat → Value) : ∀ q, ((List.range q).flatMap fun i => pcell (pt L i) (K i)).length = q * 5
  | 0 => rfl
  | q + 1 => by rw [List.range_succ, List.flatMap_append, List.length_append, prange_len L K q]; simp [pcell]; omega
theorem pcells_len (L : List Pt) (K : Nat → Value) : (pcells L K).length = L.length * 5 := prange_len L K _
theorem prange_at (L : List Pt) (K : Nat → Value) {i j : Nat} (hj : j < 5) : ∀ {q : Nat}, i < q → ((List.range q).flatMap fun i => pcell (pt L i) (K i))[i * 5 + j]? = (pcell (pt L i) (K i))[j]?
  | 0, hi => by omega
  | q + 1, hi => by
    rw [List.range_succ, List.flatMap_append]
    by_cases h : i < q
    · rw [List.getElem?_append_left (by rw [prange_len]; omega)]
      exact prange_at L K hj h
    · have e : i = q := by omega
      subst e
      rw [List.getElem?_append_right (by rw [prange_len]; omega), prange_len, show i * 5 + j - i * 5 = j by omega]
      simp
theorem pcells_at {L : List Pt} {K : Nat → Value} {i j : Nat} (hi : i < L.length) (hj : j < 5) : (pcells L K)[i * 5 + j]? = (pcell (pt L i) (K i))[j]? := prange_at L K hj hi
theorem pcells_ext {L : List Pt} {K : Nat → Value} {xs : List Value} (hl : xs.length = L.length * 5) (h : ∀ i j, i < L.length → j < 5 → xs[i * 5 + j]? = (pcell (pt L i) (K i))[j]?) : xs = pcells L K := by
  refine List.ext_getElem? (fun m => ?_)
  by_cases hm : m < L.length * 5
  · have e : m = m / 5 * 5 + m % 5 := by omega
    have h1 := h (m / 5) (m % 5) (by omega) (by omega)
    rw [← e] at h1
    rw [h1, ← pcells_at (L := L) (K := K) (by omega) (by omega), ← e]
  · rw [List.getElem?_eq_none (by omega), List.getElem?_eq_none (by rw [pcells_len]; omega)]
/-- One field of one port is set. -/
theorem pcells_set {L : List Pt} {K : Nat → Value} {k f : Nat} {u v : Value} {x : Pt} (hk : k < L.length) (hf : f < 5) (hx : pcell x v = (pcell (pt L k) (K k)).set f u) :
    (pcells L K).set (k * 5 + f) u = pcells (L.set k x) (fun i => if i = k then v else K i) := by
  refine pcells_ext (by rw [List.length_set, pcells_len, List.length_set]) (fun i j hi hj => ?_)
  rw [List.length_set] at hi
  rw [pt_set hi]
  by_cases e : k = i
  · subst e
    rw [if_pos rfl]
    simp only [if_true]
    rw [hx, List.getElem?_set]
    by_cases e2 : f = j
    · subst e2
      rw [if_pos rfl, if_pos (by rw [pcells_len]; omega), List.getElem?_set_self (by rw [pcell_len]; omega)]
    · rw [if_neg (by omega), pcells_at hi hj, List.getElem?_set_ne e2]
  · rw [if_neg e, List.getElem?_set_ne (by omega), pcells_at hi hj]
    simp only [if_neg (show ¬ i = k from fun h => e h.symm)]
theorem pcells_snoc (L : List Pt) (K : Nat → Value) (x : Pt) (v : Value) : pcells L K ++ pcell x v = pcells (L ++ [x]) (fun i => if i = L.length then v else K i) := by
  refine pcells_ext (by rw [List.length_append, pcells_len, List.length_append]; simp [pcell]; omega) (fun i j hi hj => ?_)
  rw [List.length_append, List.length_singleton] at hi
  by_cases e : i < L.length
  · rw [List.getElem?_append_left (by rw [pcells_len]; omega), pcells_at e hj, pt_left e]
    simp only [if_neg (show ¬ i = L.length by omega)]
  · have e2 : i = L.length := by omega
    subst e2
    rw [List.getElem?_append_right (by rw [pcells_len]; omega), pcells_len, show L.length * 5 + j - L.length * 5 = j by omega, pt_last]
    simp only [if_true]

/-- What came, as a value. -/
def GrsV (w : World) (v : Value) (C : List (List Cl)) : Prop := ∃ ca cc, v = .slice ca C.length cc ∧ GrsC w ca cc C
theorem GrsV.below {w w' : World} {v : Value} {C : List (List Cl)} (h : GrsV w v C) (hb : Below w.heap.size w w') : GrsV w' v C := by
  obtain ⟨ca, cc, e, hg⟩ := h
  exact ⟨ca, cc, e, hg.below hb⟩
theorem GrsV.nil (w : World) : GrsV w (.slice none 0 0) [] := ⟨none, 0, rfl, ⟨fun _ => rfl, Nat.le_refl _, by omega⟩, grs_none w⟩
theorem pcells_one {w : World} {L : List Pt} {K : Nat → Value} (h : ∀ i, i < L.length → GrsV w (K i) (pt L i).cm) : ∀ u ∈ pcells L K, u.oneCell' = true := fun u hu => by
  unfold pcells at hu
  obtain ⟨i, hi, hu⟩ := List.mem_flatMap.1 hu
  obtain ⟨ca, cc, e, _⟩ := h i (List.mem_range.1 hi)
  unfold pcell at hu
  rw [e] at hu
  simp at hu
  rcases hu with rfl | rfl | rfl | rfl | rfl <;> rfl
theorem pts_own {B : Nat} {w : World} {v : Value} {L : List Pt} {K : Nat → Value} (h : w.ownsRow B 42 5 v L.length (pcells L K)) (hg : ∀ i, i < L.length → GrsV w (K i) (pt L i).cm) : ∃ a c, v = .slice a L.length c ∧ PtsAt w a L := by
  have hc := fun g hg => h.cells (g := g) hg
  rcases h.2 with ⟨rfl, h0⟩ | ⟨g, cap, cur, rfl, _⟩
  · exact ⟨none, 0, by rw [h0], fun i hi => by omega⟩
  · refine ⟨some ⟨g, 0, none⟩, cap, rfl, fun i hi => ⟨g, 0, rfl, ?_⟩⟩
    have hx : ∀ j u, j < 5 → (pcell (pt L i) (K i))[j]? = some u → w.cell? ⟨g, 0 + i * 5 + j, none⟩ = some u := fun j u hj hu => by
      have := hc g rfl (i * 5 + j) u (by rw [pcells_at hi hj]; exact hu)
      rw [Nat.zero_add]
      rwa [Addr.add_lit, Nat.zero_add] at this
    obtain ⟨ca, cc, e, hgr⟩ := hg i hi
    exact ⟨hx 0 _ (by omega) rfl, hx 1 _ (by omega) rfl, hx 2 _ (by omega) rfl, ca, cc, hx 3 _ (by omega) (by rw [← e]; rfl), hgr, hx 4 _ (by omega) rfl⟩
/-- The values of what came, of ports in memory. -/
def kOf (w : World) (a : Option Addr) (i : Nat) : Value := match a with
  | some ad => (w.cell? ⟨ad.block, ad.off + i * 5 + 3, none⟩).getD undef
  | none => undef
theorem k_grs {w : World} {a : Option Addr} {L : List Pt} (h : PtsAt w a L) : ∀ i, i < L.length → GrsV w (kOf w a i) (pt L i).cm := fun i hi => by
  obtain ⟨b, o, rfl, _, _, _, ca, cc, c3, hg, _⟩ := h i hi
  exact ⟨ca, cc, by unfold kOf; dsimp only; rw [c3]; rfl, hg⟩
theorem k_src {w : World} {b o : Nat} {L : List Pt} (h : PtsAt w (some ⟨b, o, none⟩) L) : ∀ j u, (pcells L (kOf w (some ⟨b, o, none⟩)))[j]? = some u → w.cell? ((⟨b, o, none⟩ : Addr).add j) = some u := fun j u hj => by
  by_cases hm : j < L.length * 5
  · have e : j = j / 5 * 5 + j % 5 := by omega
    rw [e, pcells_at (by omega) (by omega)] at hj
    obtain ⟨b', o', e', c0, c1, c2, ca, cc, c3, hg, c4⟩ := h (j / 5) (by omega)
    cases e'
    rw [Addr.add_lit, e, ← Nat.add_assoc]
    unfold pcell at hj
    have h5 : j % 5 < 5 := by omega
    match j % 5, h5, hj with
    | 0, _, hj => cases hj; exact c0
    | 1, _, hj => cases hj; exact c1
    | 2, _, hj => cases hj; exact c2
    | 3, _, hj =>
      have hj2 : kOf w (some ⟨b, o, none⟩) (j / 5) = u := by simpa using hj
      unfold kOf at hj2
      dsimp only at hj2
      rw [c3] at hj2
      rw [c3, ← hj2]
      rfl
    | 4, _, hj => cases hj; exact c4
  · rw [List.getElem?_eq_none (by rw [pcells_len]; omega)] at hj
    cases hj
theorem own_p1 (V : World) : (V.alloc (.cells #[] 42)).ownsRow V.heap.size 42 5 (.slice (some ⟨V.heap.size, 0, none⟩) 0 0) 0 [] := ⟨by simp, Or.inr ⟨V.heap.size, 0, #[], rfl, Nat.le_refl _, heap_alloc_new V _, by omega, by unfold maxLen; omega, by simp, by simp⟩⟩

/-- The same, but for blocks from lo on, below hi. -/
structure BoxEq (lo hi : Nat) (w w' : World) : Prop where
  os : w'.os = w.os
  tape : w'.tape = w.tape
  output : w'.output = w.output
  size : w'.heap.size = w.heap.size
  block : ∀ b, ¬ (lo ≤ b ∧ b < hi) → w'.heap[b]? = w.heap[b]?
theorem BoxEq.refl (lo hi : Nat) (w : World) : BoxEq lo hi w w := ⟨rfl, rfl, rfl, rfl, fun _ _ => rfl⟩
theorem row_box {lo hi B t s n : Nat} {w' w'' : World} {v : Value} {xs : List Value} (h : w'.ownsRow B t s v n xs) (hB : hi ≤ B) (hb : BoxEq lo hi w' w'') : w''.ownsRow B t s v n xs := owns_block h (fun k hk => hb.block k (by have := (h.lt k hk).1; omega))
theorem below_box {lo hi : Nat} {w0 w' w'' : World} (h : Below lo w0 w') (hb : BoxEq lo hi w' w'') : Below lo w0 w'' := ⟨hb.os.trans h.os, hb.tape.trans h.tape, hb.output.trans h.output, by rw [hb.size]; exact h.size, fun k hk => (hb.block k (by omega)).trans (h.block k hk)⟩
theorem box_set1 {lo hi b o : Nat} (w : World) (v : Value) (h1 : lo ≤ b) (h2 : b < hi) : BoxEq lo hi w (w.setCell ⟨b, o, none⟩ v) := ⟨rfl, rfl, rfl, by simp, fun k hk => Below.heap_setCell _ _ _ _ (by intro e; exact hk (by rw [e]; exact ⟨h1, h2⟩))⟩

/-- What is answered where something is done to a port: the error, the ports. -/
def thenE (H E : Int) : Int := if H ≠ 0 then H else E

end Go.Proofs.Ytjncembcbfemfaa
