/-
  Rows of cells of a call's own, each with its row of kids; what a copy is, step by step.
-/
import Derived.Test.YtgjfmepbphfjoaaUCd
import Derived.Deep.RegionHeld3
namespace Go.Proofs.Ytgjfmepbphfjoaa
open Go.RowKit Go.ChangeShapes Go.WideShapes

theorem infoCell : (Try.prog.info? 62).map (fun i => (i.zero, i.size, i.bytes)) = some (some (.agg #[.int .i64 0, .slice none 0 0]), 2, 32) := by kernel_rfl

def ccell (x : Cl) (v : Value) : List Value := [.int .i64 x.n, v]
def ccells (L : List Cl) (K : Nat → Value) : List Value := (List.range L.length).flatMap fun i => ccell (cl L i) (K i)

theorem cl_left {L : List Cl} {s : Cl} {i : Nat} (h : i < L.length) : cl (L ++ [s]) i = cl L i := by
  rw [cl_elem (by simp; omega), cl_elem h, List.getElem_append_left h]
theorem cl_last (L : List Cl) (s : Cl) : cl (L ++ [s]) L.length = s := by
  rw [cl_elem (by simp)]
  simp

theorem ccells_snoc (L : List Cl) (K : Nat → Value) (s : Cl) (v : Value) : ccells L K ++ ccell s v = ccells (L ++ [s]) (fun i => if i = L.length then v else K i) := by
  unfold ccells
  rw [List.length_append, List.length_singleton, List.range_succ, List.flatMap_append]
  congr 1
  · rw [List.flatMap_def, List.flatMap_def]
    congr 1
    refine List.map_congr_left (fun i hi => ?_)
    have hi := List.mem_range.1 hi
    show _ = ccell (cl (L ++ [s]) i) (if i = L.length then v else K i)
    rw [cl_left hi, if_neg (by omega)]
  · simp [cl_last]

/-- A row of cells, and the rows of their kids, of the call's own. -/
def OwnC (B : Nat) (L : List Cl) (K : Nat → Value) (v : Value) (w : World) : Prop :=
  w.ownsRow B 62 2 v L.length (ccells L K) ∧ ∀ i, i < L.length → w.ownsRow B 3 1 (K i) (cl L i).ks.length ((cl L i).ks.map (Value.int .i64))

theorem ccells_len (L : List Cl) (K : Nat → Value) : ∀ q, ((List.range q).flatMap fun i => ccell (cl L i) (K i)).length = q * 2
  | 0 => rfl
  | q + 1 => by rw [List.range_succ, List.flatMap_append, List.length_append, ccells_len L K q]; simp [ccell]; omega

theorem ccells_at (L : List Cl) (K : Nat → Value) {i j : Nat} (hj : j < 2) : ∀ {q : Nat}, i < q → ((List.range q).flatMap fun i => ccell (cl L i) (K i))[i * 2 + j]? = (ccell (cl L i) (K i))[j]?
  | 0, hi => by omega
  | q + 1, hi => by
    rw [List.range_succ, List.flatMap_append]
    by_cases e : i = q
    · subst e
      rw [List.getElem?_append_right (by rw [ccells_len]; omega), ccells_len]
      simp
    · rw [List.getElem?_append_left (by rw [ccells_len]; omega)]
      exact ccells_at L K hj (by omega)

theorem OwnC.cls {B : Nat} {L : List Cl} {K : Nat → Value} {v : Value} {w : World} (h : OwnC B L K v w) : ∃ a c, v = .slice a L.length c ∧ ClsAt w a L := by
  obtain ⟨hm, hk⟩ := h
  have hm' := hm
  obtain ⟨hl, h⟩ := hm
  rcases h with ⟨rfl, h0⟩ | ⟨g, cap, cur, rfl, hb, hg, h1, h2, h3, h4⟩
  · exact ⟨none, 0, by rw [h0], fun i hi => by omega⟩
  · refine ⟨some ⟨g, 0, none⟩, cap, rfl, fun i hi => ⟨g, 0, rfl, ?_⟩⟩
    have hc : ∀ j, j < 2 → w.cell? ⟨g, i * 2 + j, none⟩ = (ccell (cl L i) (K i))[j]? := fun j hj => by
      rw [← ccells_at L K hj hi]
      exact hm'.cellAt (i * 2 + j) (by omega)
    obtain ⟨sa, sc, e1, e2⟩ := ints_own (hk i hi)
    rw [Nat.zero_add]
    refine ⟨hc 0 (by omega), sa, sc, ?_, e2⟩
    rw [hc 1 (by omega), e1]
    rfl

theorem OwnC.kept {B : Nat} {L : List Cl} {K : Nat → Value} {v : Value} {w w' : World} (h : OwnC B L K v w) (e : ∀ j, B ≤ j → j < w.heap.size → (v.ownBlock = some j ∨ ∃ i, i < L.length ∧ (K i).ownBlock = some j) → w'.heap[j]? = w.heap[j]?) : OwnC B L K v w' :=
  ⟨owns_block h.1 (fun k hk => e k (h.1.lt k hk).1 (h.1.lt k hk).2 (Or.inl hk)), fun i hi => owns_block (h.2 i hi) (fun k hk => e k ((h.2 i hi).lt k hk).1 ((h.2 i hi).lt k hk).2 (Or.inr ⟨i, hi, hk⟩))⟩
theorem OwnC.below {B : Nat} {L : List Cl} {K : Nat → Value} {v : Value} {w w' : World} (h : OwnC B L K v w) (hb : Below w.heap.size w w') : OwnC B L K v w' := h.kept (fun j _ hj _ => hb.block j hj)

theorem OwnC.step {w5 w3 : World} {B : Nat} {L : List Cl} {K : Nat → Value} {v v1 v2 : Value} {s : Cl} {o3 : Obj} (I : OwnC B L K v w5) (own1 : w5.ownsRow B 3 1 v1 s.ks.length (s.ks.map (Value.int .i64)))
    (h3 : (w5.alloc o3).grownBy w3 v.ownBlock) (own3 : w3.ownsRow B 62 2 v2 (L.length + 1) (ccells L K ++ ccell s v1)) :
    OwnC B (L ++ [s]) (fun i => if i = L.length then v1 else K i) v2 w3 := by
  obtain ⟨hm, hk⟩ := I
  have e3 : ∀ k, k < w5.heap.size → v.ownBlock ≠ some k → w3.heap[k]? = w5.heap[k]? := fun k hk hk2 =>
    (h3.block k (by simp; omega) (fun e => hk2 e.symm)).trans (Below.heap_alloc _ _ _ hk)
  refine ⟨?_, fun i hi => ?_⟩
  · rw [← ccells_snoc, List.length_append, List.length_singleton]
    exact own3
  · rw [List.length_append, List.length_singleton] at hi
    by_cases ei : i = L.length
    · subst ei
      simp only [if_true]
      rw [cl_last]
      exact owns_block own1 (fun k hk => e3 k (own1.lt k hk).2 (owns_apart own1 hm (by decide) k hk))
    · simp only [if_neg ei]
      have hi' : i < L.length := by omega
      rw [cl_left hi']
      have hkr := hk i hi'
      exact owns_block hkr (fun k hk => e3 k (hkr.lt k hk).2 (owns_apart hkr hm (by decide) k hk))

theorem news2 {W : World} {b : Nat} {s : Cl} {v : Value} (c0 : W.cell? ⟨b, 0, none⟩ = some (.int .i64 s.n)) (c1 : W.cell? ⟨b, 1, none⟩ = some v) : ∀ j u, (ccell s v)[j]? = some u → W.cell? ((⟨b, 0, none⟩ : Addr).add j) = some u := fun j u hj => by
  unfold ccell at hj
  rw [Addr.add_lit]
  match j, hj with
  | 0, hj => cases hj; exact c0
  | 1, hj => cases hj; exact c1

theorem one2 {s : Cl} {a : Option Addr} {n c : Nat} : ∀ u ∈ ccell s (.slice a n c), u.oneCell' = true := fun u hu => by
  unfold ccell at hu
  simp at hu
  rcases hu with rfl | rfl <;> rfl

/-- append onto a row of the call's own, in a region that draws. -/
theorem step_append_ownC {P : Program} {ops : Array Oper} {o : Oper} {a : Act} {w : World} {K : Act → World → Prop} {Q : Exit → Act → World → Prop} {E : Prop}
    (hg : o.guard = none) (s x : Operand) (t : TypeId) (hop : o.op = Op.call { callee := Callee.builtin Builtin.append, args := #[s, x], argTypes := #[t, t] })
    (base : Nat) (e : TypeId) (i : TypeInfo) (z : Value) (size bytes : Nat) (h1 : P.underlying t = some (.slice e)) (h2 : P.info? e = some i) (h3 : i.zero = some z) (h4 : i.size = size) (h5 : i.bytes = bytes) (h6 : z.cells.size = size) (h7 : 0 < size)
    (v : Value) (n : Nat) (xs : List Value) (hs : a.eval s = v) (hown : w.ownsRow base e size v n xs)
    (ad : Addr) (m c : Nat) (news : List Value) (hx : a.eval x = .slice (some ad) m c) (hn : news.length = m * size) (hc : ∀ j u, news[j]? = some u → w.cell? (ad.add j) = some u) (h1c : ∀ u ∈ news, u.oneCell' = true)
    (b1 : n + m ≤ maxLen) (b2 : (n + m) * bytes ≤ 140737488355328) (hbase : base ≤ w.heap.size)
    (hK : ∀ v' w', w'.ownsRow base e size v' (n + m) (xs ++ news) → w.grownBy w' v.ownBlock → K (a.put o.dst v') w') :
    if Region.wanted o (yielded ops a.tmps) = true then Oper.wp P o a w K Q else E := by
  have hw : Region.wanted o (yielded ops a.tmps) = true := by simp [Region.wanted, hg]
  rw [if_pos hw]
  exact wp_append_own w s x t hop base e i z size bytes h1 h2 h3 h4 h5 h6 h7 v n xs hs hown ad m c news hx hn hc h1c b1 b2 hbase (fun v' w' r1 r2 _ => hK v' w' r1 r2)

/-- Step by step: at1 does not turn while what is there grows. -/
theorem at1_reach {G : List Cl} (hG : KidsIn G) (h0 : 0 < G.length) {i : Nat} {k : Int} (hk : k ∈ bfs G i) : at1 (bfs G i) k = at1 (reach G) k := by
  obtain ⟨r, hr⟩ := bfs_reach hG h0 i
  rw [hr, at1_pre hk]
theorem bfs_get {G : List Cl} (hG : KidsIn G) (h0 : 0 < G.length) {i : Nat} (hi : i < (bfs G i).length) : i < (reach G).length ∧ (reach G).getD i 0 = (bfs G i).getD i 0 := by
  obtain ⟨r, hr⟩ := bfs_reach hG h0 i
  have h1 : i < (reach G).length := by rw [hr]; simp; omega
  refine ⟨h1, ?_⟩
  rw [getD_elem _ _ h1, getD_elem _ _ hi]
  simp only [hr]
  rw [List.getElem_append_left hi]
theorem bfs_step {G : List Cl} {i : Nat} (hi : i < (bfs G i).length) : brings (bfs G i) (cl G ((bfs G i).getD i 0).toNat).ks = bfs G (i + 1) := by
  rw [bfs, if_pos hi]
theorem copy_next {G : List Cl} (hG : KidsIn G) (h0 : 0 < G.length) {i y : Nat} (hi : i < (bfs G i).length) (hy : (bfs G i).getD i 0 = y) :
    (copyF G).take (i + 1) = (copyF G).take i ++ [⟨(cl G y).n, (cl G y).ks.map (at1 (bfs G (i + 1)))⟩] := by
  obtain ⟨h1, h2⟩ := bfs_get hG h0 hi
  have hl := copyF_len h0
  rw [List.take_succ_eq_append_getElem (by omega), ← cl_elem, copyF_cl h0 h1, h2, hy]
  unfold copyC
  rw [Int.toNat_natCast]
  congr 3
  refine List.map_congr_left (fun k hk => ?_)
  rw [at1_reach hG h0]
  rw [← bfs_step hi, brings_mem, hy, Int.toNat_natCast]
  exact Or.inr hk
theorem bfs_le (G : List Cl) : ∀ i, (bfs G i).length ≤ (bfs G (i + 1)).length := fun i => by
  obtain ⟨r, hr⟩ := bfs_pre G i
  rw [hr]
  simp
end Go.Proofs.Ytgjfmepbphfjoaa
