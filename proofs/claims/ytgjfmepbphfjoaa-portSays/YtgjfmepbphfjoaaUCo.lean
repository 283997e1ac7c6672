/-
  The reference's Copied.
-/
import Derived.Test.YtgjfmepbphfjoaaUCn
import Derived.BigQuiet
namespace Go.Proofs.Ytgjfmepbphfjoaa
open Go.RowKit Go.ChangeShapes Go.WideShapes

/-- What is there, so many of them with their kids. -/
def outF (G : List Cl) (T : List Int) (d : Nat) : List Cl := (List.range T.length).map fun i => if i < d then copyC G (reach G) (T.getD i 0) else ⟨(cl G (T.getD i 0).toNat).n, []⟩

theorem outF_len (G : List Cl) (T : List Int) (d : Nat) : (outF G T d).length = T.length := by simp [outF]
theorem outF_cl {G : List Cl} {T : List Int} {d i : Nat} (hi : i < T.length) : cl (outF G T d) i = if i < d then copyC G (reach G) (T.getD i 0) else ⟨(cl G (T.getD i 0).toNat).n, []⟩ := by
  rw [cl_elem (by rw [outF_len]; exact hi)]
  simp [outF]
theorem outF_add {G : List Cl} {T : List Int} {d k : Nat} (hd : d ≤ T.length) : outF G (T ++ [(k : Int)]) d = outF G T d ++ [⟨(cl G k).n, []⟩] := by
  refine cl_ext (by rw [outF_len, List.length_append, List.length_append, outF_len]; rfl) (fun i hi => ?_)
  rw [outF_len] at hi
  rw [outF_cl hi]
  rw [List.length_append, List.length_singleton] at hi
  by_cases h : i < T.length
  · rw [cl_left (by rw [outF_len]; exact h), outF_cl h]
    have e : (T ++ [(k : Int)]).getD i 0 = T.getD i 0 := by rw [getD_elem _ _ (by simp; omega), getD_elem _ _ h, List.getElem_append_left h]
    rw [e]
  · have : i = T.length := by omega
    subst this
    have e : (T ++ [(k : Int)]).getD T.length 0 = (k : Int) := by rw [getD_elem _ _ (by simp)]; simp
    rw [e, if_neg (by omega), Int.toNat_natCast]
    have := cl_last (outF G T d) ⟨(cl G k).n, []⟩
    rw [outF_len] at this
    exact this.symm
theorem outF_bring {G : List Cl} {T : List Int} {d k : Nat} (hd : d ≤ T.length) : (if (k : Int) ∈ T then outF G T d else outF G T d ++ [⟨(cl G k).n, []⟩]) = outF G (bring T k) d := by
  unfold bring
  by_cases h : (k : Int) ∈ T
  · rw [if_pos h, if_pos h]
  · rw [if_neg h, if_neg h, outF_add hd]
theorem outF_set {G : List Cl} {T : List Int} {d : Nat} : (outF G T d).set d (copyC G (reach G) (T.getD d 0)) = outF G T (d + 1) := by
  refine cl_ext (by rw [List.length_set, outF_len, outF_len]) (fun i hi => ?_)
  rw [List.length_set, outF_len] at hi
  rw [outF_cl hi, cl_elem (by rw [List.length_set, outF_len]; exact hi), List.getElem_set]
  by_cases e : d = i
  · subst e
    rw [if_pos rfl, if_pos (by omega)]
  · rw [if_neg e, ← cl_elem, outF_cl hi]
    by_cases h2 : i < d
    · rw [if_pos h2, if_pos (by omega)]
    · rw [if_neg h2, if_neg (by omega)]
theorem outF_all {G : List Cl} (h0 : 0 < G.length) {d : Nat} (hd : (reach G).length ≤ d) : outF G (reach G) d = copyF G := by
  refine cl_ext (by rw [outF_len, copyF_len h0]) (fun i hi => ?_)
  rw [outF_len] at hi
  rw [outF_cl hi, if_pos (by omega), copyF_cl h0 hi]

/-- The kids of a cell of the row are set. -/
theorem OwnC.putK {B : Nat} {L : List Cl} {K : Nat → Value} {g cap i : Nat} {w : World} (h : OwnC B L K (.slice (some ⟨g, 0, none⟩) L.length cap) w) (hi : i < L.length) (ks : List Int) (v : Value) (hv : w.ownsRow B 3 1 v ks.length (ks.map (Value.int .i64))) :
    OwnC B (L.set i ⟨(cl L i).n, ks⟩) (fun j => if j = i then v else K j) (.slice (some ⟨g, 0, none⟩) L.length cap) (w.setCell ⟨g, i * 2 + 1, none⟩ v) := by
  have hcl : ∀ j, j < L.length → cl (L.set i ⟨(cl L i).n, ks⟩) j = if j = i then ⟨(cl L i).n, ks⟩ else cl L j := fun j hj => by
    rw [cl_elem (by rw [List.length_set]; exact hj), List.getElem_set]
    by_cases e : i = j
    · rw [if_pos e, if_pos e.symm]
    · rw [if_neg e, if_neg (fun h => e h.symm), cl_elem hj]
  refine ⟨?_, fun j hj => ?_⟩
  · have h2 := (h.1.stored (i * 2 + 1) v).1
    rw [List.length_set]
    have e : (ccells L K).set (i * 2 + 1) v = ccells (L.set i ⟨(cl L i).n, ks⟩) (fun j => if j = i then v else K j) := by
      apply List.ext_getElem?
      intro p
      unfold ccells
      rw [List.length_set]
      by_cases hp : p < L.length * 2
      · have e1 : p = p / 2 * 2 + p % 2 := by omega
        have h3 : p / 2 < L.length := by omega
        have h4 : p % 2 < 2 := by omega
        rw [List.getElem?_set, ccells_len]
        rw [e1, ccells_at _ _ h4 h3, ccells_at _ _ h4 h3, hcl _ h3]
        by_cases e2 : p / 2 = i
        · rw [if_pos e2]
          simp only [if_pos e2]
          have h5 : p % 2 = 0 ∨ p % 2 = 1 := by omega
          rcases h5 with h5 | h5
          · rw [h5, if_neg (by omega)]
            rw [e2]
            rfl
          · rw [h5, if_pos (by omega), if_pos (by omega)]
            rfl
        · rw [if_neg e2]
          simp only [if_neg e2]
          rw [if_neg (by omega)]
      · rw [List.getElem?_eq_none (by rw [List.length_set, ccells_len]; omega), List.getElem?_eq_none (by rw [ccells_len]; omega)]
    rw [e] at h2
    exact h2
  · rw [List.length_set] at hj
    rw [hcl j hj]
    have ap : ∀ b (x : Value) (m : Nat) (xs : List Value), w.ownsRow B 3 1 x m xs → x.ownBlock = some b → b ≠ g := fun b x m xs hx hb e => owns_apart hx h.1 (by decide) b hb (by rw [e]; rfl)
    by_cases e : j = i
    · subst e
      simp only [if_true]
      exact owns_block hv (fun b hb => Below.heap_setCell _ _ _ _ (ap b _ _ _ hv hb))
    · simp only [if_neg e]
      exact owns_block (h.2 j hj) (fun b hb => Below.heap_setCell _ _ _ _ (ap b _ _ _ (h.2 j hj) hb))

/-- Where a kid is found while they are brought it stays. -/
theorem at1_step {G : List Cl} (hG : KidsIn G) (h0 : 0 < G.length) {i y j : Nat} (hi : i < (bfs G i).length) (hy : (bfs G i).getD i 0 = y) (hj : j < (cl G y).ks.length) :
    at1 (bring (brings (bfs G i) ((cl G y).ks.take j)) ((cl G y).ks.getD j 0)) ((cl G y).ks.getD j 0) = at1 (reach G) ((cl G y).ks.getD j 0) := by
  rw [← brings_take hj]
  have hm : (cl G y).ks.getD j 0 ∈ brings (bfs G i) ((cl G y).ks.take (j + 1)) := by rw [brings_take hj]; exact bring_mem _ _
  obtain ⟨r, hr⟩ := brings_pre ((cl G y).ks.drop (j + 1)) (brings (bfs G i) ((cl G y).ks.take (j + 1)))
  have e : brings (brings (bfs G i) ((cl G y).ks.take (j + 1))) ((cl G y).ks.drop (j + 1)) = bfs G (i + 1) := by
    have h1 := bfs_step hi
    rw [hy, Int.toNat_natCast] at h1
    rw [← h1]
    unfold brings
    rw [← List.foldl_append, List.take_append_drop]
  rw [e] at hr
  obtain ⟨r2, hr2⟩ := bfs_reach hG h0 (i + 1)
  rw [hr2, hr, List.append_assoc, at1_pre hm]
end Go.Proofs.Ytgjfmepbphfjoaa
