/-
  Graphs, without the program: what the first cell leads to, and copies.
-/
import Derived.Test.YtgjfmepbphfjoaaGreatUSaSbScBa
namespace Go.Proofs.YtgjfmepbphfjoaaGreat

theorem nodup_leC {N : Nat} {l : List Nat} (h : l.Nodup) (hl : ∀ y ∈ l, y < N) : l.length ≤ N := by
  have := h.length_le_of_subset (l₂ := List.range N) (fun y hy => List.mem_range.2 (hl y hy))
  simpa using this

/-- A cell of a graph: its number, and its kids. -/
structure Cl where
  n : Int
  ks : List Int
  deriving DecidableEq

def zeroCl : Cl := ⟨0, []⟩
def cl (G : List Cl) (i : Nat) : Cl := G.getD i zeroCl
theorem cl_elem {G : List Cl} {i : Nat} (h : i < G.length) : cl G i = G[i] := getD_elem G zeroCl h

theorem cl_ext {G H : List Cl} (hl : G.length = H.length) (h : ∀ i, i < G.length → cl G i = cl H i) : G = H := by
  apply List.ext_getElem hl
  intro i h1 h2
  have := h i h1
  rwa [cl_elem h1, cl_elem h2] at this

/-- What is wrong with the cells of a graph, one by one; m: how many cells there are. -/
def cellE (m : Nat) (x : Cl) : Int := if x.n < -1000000 ∨ 1000000 < x.n then 2 else if 8 < x.ks.length then 1 else if x.ks.any (fun k => !decide (0 ≤ k ∧ k ≤ (m : Int) - 1)) then 4 else 0
def cellsE (m : Nat) : List Cl → Int
  | [] => 0
  | x :: l => if cellE m x = 0 then cellsE m l else cellE m x

/-- k is brought to what is there. -/
def bring (T : List Int) (k : Int) : List Int := if k ∈ T then T else T ++ [k]
def brings (T ks : List Int) : List Int := ks.foldl bring T
def bfs (G : List Cl) : Nat → List Int
  | 0 => [0]
  | i + 1 => if i < (bfs G i).length then brings (bfs G i) (cl G ((bfs G i).getD i 0).toNat).ks else bfs G i
/-- Where k stands in T. -/
def at1 (T : List Int) (k : Int) : Int := (T.idxOf k : Int)
def copyC (G : List Cl) (T : List Int) (k : Int) : Cl := ⟨(cl G k.toNat).n, (cl G k.toNat).ks.map (at1 T)⟩
def reach (G : List Cl) : List Int := bfs G G.length
def copyF (G : List Cl) : List Cl := if G.length = 0 then [] else (reach G).map (copyC G (reach G))

/-- All kids are cells. -/
def KidsIn (G : List Cl) : Prop := ∀ i, i < G.length → ∀ k ∈ (cl G i).ks, ∃ q : Nat, k = q ∧ q < G.length
/-- T: places, each once. -/
def Places (m : Nat) (T : List Int) : Prop := T.Nodup ∧ ∀ k ∈ T, ∃ q : Nat, k = q ∧ q < m

theorem bring_pre (T : List Int) (k : Int) : ∃ r, bring T k = T ++ r := by
  unfold bring
  split
  · exact ⟨[], by simp⟩
  · exact ⟨[k], rfl⟩
theorem brings_pre : ∀ (ks T : List Int), ∃ r, brings T ks = T ++ r
  | [], T => ⟨[], by simp [brings]⟩
  | k :: ks, T => by
    obtain ⟨r1, h1⟩ := bring_pre T k
    obtain ⟨r2, h2⟩ := brings_pre ks (bring T k)
    exact ⟨r1 ++ r2, by show brings (bring T k) ks = _; rw [h2, h1, List.append_assoc]⟩
theorem brings_snoc (T ks : List Int) (k : Int) : brings T (ks ++ [k]) = bring (brings T ks) k := by simp [brings]
theorem bring_places {m : Nat} {T : List Int} {k : Int} (h : Places m T) (hk : ∃ q : Nat, k = q ∧ q < m) : Places m (bring T k) := by
  unfold bring
  split
  · exact h
  · rename_i hn
    refine ⟨?_, fun x hx => ?_⟩
    · rw [List.nodup_append]
      exact ⟨h.1, by simp, fun a ha b hb e => by simp at hb; subst hb; subst e; exact hn ha⟩
    · rcases List.mem_append.1 hx with h1 | h1
      · exact h.2 x h1
      · simp at h1; subst h1; exact hk
theorem brings_places {m : Nat} : ∀ (ks : List Int) {T : List Int}, Places m T → (∀ k ∈ ks, ∃ q : Nat, k = q ∧ q < m) → Places m (brings T ks)
  | [], _, h, _ => h
  | k :: ks, T, h, hk => brings_places ks (bring_places h (hk k (by simp))) (fun x hx => hk x (by simp [hx]))
theorem brings_mem : ∀ (ks : List Int) (T : List Int) (x : Int), x ∈ brings T ks ↔ x ∈ T ∨ x ∈ ks
  | [], T, x => by simp [brings]
  | k :: ks, T, x => by
    show x ∈ brings (bring T k) ks ↔ _
    rw [brings_mem ks]
    have : x ∈ bring T k ↔ x ∈ T ∨ x = k := by
      unfold bring
      split
      · rename_i h
        exact ⟨Or.inl, fun h1 => h1.elim id (fun e => by rw [e]; exact h)⟩
      · simp
    rw [this]
    simp [or_assoc]

theorem at1_pre {T r : List Int} {k : Int} (h : k ∈ T) : at1 (T ++ r) k = at1 T k := by
  unfold at1
  rw [List.idxOf_append, if_pos h]
theorem at1_new {T : List Int} {k : Int} (h : k ∉ T) : at1 (T ++ [k]) k = T.length := by
  unfold at1
  rw [List.idxOf_append, if_neg h]
  simp
theorem at1_get {T : List Int} {k : Int} (h : k ∈ T) : (at1 T k).toNat < T.length ∧ T.getD (at1 T k).toNat 0 = k := by
  unfold at1
  have h1 := List.idxOf_lt_length_of_mem h
  rw [Int.toNat_natCast]
  exact ⟨h1, by rw [getD_elem _ _ h1]; exact List.getElem_idxOf h1⟩
theorem at1_nth {T : List Int} (hn : T.Nodup) {i : Nat} (hi : i < T.length) : at1 T (T.getD i 0) = i := by
  unfold at1
  rw [getD_elem _ _ hi]
  have hm : T[i] ∈ T := List.getElem_mem hi
  have h1 := List.idxOf_lt_length_of_mem hm
  have h2 : T[T.idxOf T[i]] = T[i] := List.getElem_idxOf h1
  have hp := List.pairwise_iff_getElem.1 (List.nodup_iff_pairwise_ne.1 hn)
  have : T.idxOf T[i] = i := by
    rcases Nat.lt_trichotomy (T.idxOf T[i]) i with h | h | h
    · exact absurd h2 (hp _ _ h1 hi h)
    · exact h
    · exact absurd h2.symm (hp _ _ hi h1 h)
  omega

theorem places_len {m : Nat} {T : List Int} (h : Places m T) : T.length ≤ m := by
  have h1 : (T.map Int.toNat).Nodup := by
    rw [List.nodup_iff_pairwise_ne, List.pairwise_map]
    refine (List.nodup_iff_pairwise_ne.1 h.1).imp_of_mem (fun {a b} ha hb hne e => hne ?_)
    obtain ⟨q, e1, _⟩ := h.2 a ha
    obtain ⟨q', e2, _⟩ := h.2 b hb
    omega
  have h2 := nodup_leC (N := m) h1 (fun y hy => by
    obtain ⟨x, hx, rfl⟩ := List.mem_map.1 hy
    obtain ⟨q, e, hq⟩ := h.2 x hx
    omega)
  rwa [List.length_map] at h2

theorem bfs_pre (G : List Cl) (i : Nat) : ∃ r, bfs G (i + 1) = bfs G i ++ r := by
  rw [bfs]
  split
  · exact brings_pre _ _
  · exact ⟨[], by simp⟩
theorem bfs_pre' (G : List Cl) (i : Nat) : ∀ j, ∃ r, bfs G (i + j) = bfs G i ++ r
  | 0 => ⟨[], by simp⟩
  | j + 1 => by
    obtain ⟨r, h⟩ := bfs_pre' G i j
    obtain ⟨r', h'⟩ := bfs_pre G (i + j)
    exact ⟨r ++ r', by rw [show i + (j + 1) = i + j + 1 by omega, h', h, List.append_assoc]⟩
theorem bfs_places {G : List Cl} (hG : KidsIn G) (h0 : 0 < G.length) : ∀ i, Places G.length (bfs G i)
  | 0 => ⟨by simp [bfs], fun k hk => ⟨0, by simpa [bfs] using hk, h0⟩⟩
  | i + 1 => by
    have ih := bfs_places hG h0 i
    rw [bfs]
    split
    · rename_i hi
      refine brings_places _ ih ?_
      obtain ⟨q, e, hq⟩ := ih.2 ((bfs G i).getD i 0) (by rw [getD_elem _ _ hi]; exact List.getElem_mem hi)
      rw [e, Int.toNat_natCast]
      exact hG q hq
    · exact ih
theorem bfs_stop {G : List Cl} {i : Nat} (h : ¬ i < (bfs G i).length) : ∀ j, bfs G (i + j) = bfs G i
  | 0 => rfl
  | j + 1 => by
    have ih := bfs_stop h j
    rw [show i + (j + 1) = i + j + 1 by omega, bfs, ih, if_neg (by omega)]
/-- The loop has come to its end: what is there is all. -/
theorem bfs_end {G : List Cl} (hG : KidsIn G) (h0 : 0 < G.length) {i : Nat} (h : ¬ i < (bfs G i).length) : bfs G i = reach G := by
  unfold reach
  rcases Nat.le_total i G.length with h1 | h1
  · have := bfs_stop h (G.length - i)
    rw [show i + (G.length - i) = G.length by omega] at this
    exact this.symm
  · have h2 : ¬ G.length < (bfs G G.length).length := by have := places_len (bfs_places hG h0 G.length); omega
    have := bfs_stop h2 (i - G.length)
    rw [show G.length + (i - G.length) = i by omega] at this
    exact this
theorem reach_places {G : List Cl} (hG : KidsIn G) (h0 : 0 < G.length) : Places G.length (reach G) := bfs_places hG h0 _
theorem reach_len {G : List Cl} (hG : KidsIn G) (h0 : 0 < G.length) : (reach G).length ≤ G.length := places_len (reach_places hG h0)
/-- What is there at a step is there at the end, at its place. -/
theorem bfs_reach {G : List Cl} (hG : KidsIn G) (h0 : 0 < G.length) (i : Nat) : ∃ r, reach G = bfs G i ++ r := by
  rcases Nat.le_total i G.length with h1 | h1
  · have := bfs_pre' G i (G.length - i)
    rw [show i + (G.length - i) = G.length by omega] at this
    exact this
  · have h2 : ¬ G.length < (bfs G G.length).length := by have := places_len (bfs_places hG h0 G.length); omega
    have := bfs_stop h2 (i - G.length)
    rw [show G.length + (i - G.length) = i by omega] at this
    exact ⟨[], by rw [this]; simp [reach]⟩
theorem bfs_short {G : List Cl} (hG : KidsIn G) (h0 : 0 < G.length) (i : Nat) : (bfs G i).length ≤ G.length := places_len (bfs_places hG h0 i)

/-- The kids of what is there are there. -/
theorem reach_kids {G : List Cl} (hG : KidsIn G) (h0 : 0 < G.length) {i : Nat} (hi : i < (reach G).length) {k : Int} (hk : k ∈ (cl G ((reach G).getD i 0).toNat).ks) : k ∈ reach G := by
  obtain ⟨r, hr⟩ := bfs_reach hG h0 i
  obtain ⟨r', hr'⟩ := bfs_reach hG h0 (i + 1)
  have hi2 : i < (bfs G i).length := by
    by_cases h : i < (bfs G i).length
    · exact h
    · have := bfs_end hG h0 h
      rw [this] at h
      exact absurd hi h
  have e : (reach G).getD i 0 = (bfs G i).getD i 0 := by
    rw [hr, getD_elem _ _ (by simp; omega), getD_elem _ _ hi2, List.getElem_append_left hi2]
  rw [hr', bfs, if_pos hi2]
  refine List.mem_append_left _ ?_
  rw [brings_mem]
  rw [e] at hk
  exact Or.inr hk
theorem reach_first {G : List Cl} (hG : KidsIn G) (h0 : 0 < G.length) : ∃ r, reach G = 0 :: r := bfs_reach hG h0 0

theorem copyF_len {G : List Cl} (h0 : 0 < G.length) : (copyF G).length = (reach G).length := by
  unfold copyF
  rw [if_neg (by omega), List.length_map]
theorem copyF_cl {G : List Cl} (h0 : 0 < G.length) {i : Nat} (hi : i < (reach G).length) : cl (copyF G) i = copyC G (reach G) ((reach G).getD i 0) := by
  rw [cl_elem (by rw [copyF_len h0]; exact hi), getD_elem _ _ hi]
  unfold copyF
  simp [show ¬ G.length = 0 by omega]
theorem copyF_none {G : List Cl} (h0 : G.length = 0) : copyF G = [] := by unfold copyF; rw [if_pos h0]
theorem copyF_pos {G : List Cl} (hG : KidsIn G) (h0 : 0 < G.length) : 0 < (copyF G).length := by
  obtain ⟨r, hr⟩ := reach_first hG h0
  rw [copyF_len h0, hr]
  simp
theorem copyF_kids {G : List Cl} (hG : KidsIn G) : KidsIn (copyF G) := by
  by_cases h0 : G.length = 0
  · rw [copyF_none h0]; intro i hi; cases hi
  · have h0 : 0 < G.length := by omega
    intro i hi k hk
    rw [copyF_len h0] at hi ⊢
    rw [copyF_cl h0 hi] at hk
    obtain ⟨x, hx, rfl⟩ := List.mem_map.1 hk
    have := at1_get (reach_kids hG h0 hi hx)
    refine ⟨(at1 (reach G) x).toNat, ?_, this.1⟩
    unfold at1
    simp

/-- Two graphs whose first n cells are alike, and lead nowhere else, are walked alike. -/
theorem bfs_like {G H : List Cl} {n : Nat} (hGH : ∀ i, i < n → cl G i = cl H i) (hn : 0 < n) (hk : ∀ i, i < n → ∀ k ∈ (cl G i).ks, ∃ q : Nat, k = q ∧ q < n) : ∀ i, bfs G i = bfs H i ∧ ∀ k ∈ bfs G i, ∃ q : Nat, k = q ∧ q < n
  | 0 => ⟨rfl, fun k h => ⟨0, by simpa [bfs] using h, hn⟩⟩
  | i + 1 => by
    obtain ⟨e, hb⟩ := bfs_like hGH hn hk i
    rw [bfs, bfs, ← e]
    split
    · rename_i hi
      obtain ⟨q, eq, hq⟩ := hb ((bfs G i).getD i 0) (by rw [getD_elem _ _ hi]; exact List.getElem_mem hi)
      rw [eq, Int.toNat_natCast, hGH q hq]
      refine ⟨rfl, fun k hk2 => ?_⟩
      rw [brings_mem] at hk2
      rcases hk2 with h1 | h1
      · exact hb k h1
      · exact hk q hq k (by rw [hGH q hq]; exact h1)
    · exact ⟨rfl, hb⟩

/-- The places of a copy are walked in order. -/
theorem bfs_copy {G : List Cl} (hG : KidsIn G) (h0 : 0 < G.length) : ∀ i, bfs (copyF G) i = (List.range (bfs G i).length).map (fun q : Nat => (q : Int))
  | 0 => by simp [bfs]
  | i + 1 => by
    have ih := bfs_copy hG h0 i
    obtain ⟨r, hr⟩ := bfs_reach hG h0 i
    obtain ⟨r1, hr1⟩ := bfs_reach hG h0 (i + 1)
    have np := (reach_places hG h0).1
    rw [bfs, ih]
    simp only [List.length_map, List.length_range]
    by_cases hi : i < (bfs G i).length
    · rw [if_pos hi]
      have hi2 : i < (reach G).length := by rw [hr]; simp; omega
      have e : (reach G).getD i 0 = (bfs G i).getD i 0 := by
        rw [hr, getD_elem _ _ (by simp; omega), getD_elem _ _ hi, List.getElem_append_left hi]
      have e2 : ((List.range (bfs G i).length).map (fun q : Nat => (q : Int))).getD i 0 = i := by
        rw [getD_elem _ _ (by simpa using hi)]; simp
      rw [e2, Int.toNat_natCast, copyF_cl h0 hi2, e]
      have hks : brings (bfs G i) (cl G ((bfs G i).getD i 0).toNat).ks = bfs G (i + 1) := by rw [bfs, if_pos hi]
      rw [← hks]
      rw [← hks] at hr1
      show brings _ ((cl G ((bfs G i).getD i 0).toNat).ks.map (at1 (reach G))) = _
      generalize (cl G ((bfs G i).getD i 0).toNat).ks = ks at hr1 ⊢
      generalize bfs G i = T at *
      clear ih e e2 hks hi hi2 hr
      -- T, ks: by the kids
      induction ks generalizing T with
      | nil => rfl
      | cons k ks ih2 =>
        have hb : brings T (k :: ks) = brings (bring T k) ks := rfl
        rw [hb] at hr1 ⊢
        rw [List.map_cons]
        show brings (bring _ (at1 (reach G) k)) _ = _
        obtain ⟨r2, hr2⟩ := brings_pre ks (bring T k)
        have hR : reach G = bring T k ++ (r2 ++ r1) := by rw [hr1, hr2, List.append_assoc]
        rw [← ih2 (bring T k) hr1]
        congr 1
        have hk : k ∈ bring T k := by
          unfold bring
          split
          · assumption
          · simp
        rw [hR, at1_pre hk]
        by_cases hm : k ∈ T
        · have e3 : bring T k = T := by unfold bring; rw [if_pos hm]
          rw [e3]
          have := at1_get hm
          have h4 : at1 T k ∈ (List.range T.length).map (fun q : Nat => (q : Int)) := by
            rw [List.mem_map]
            refine ⟨T.idxOf k, List.mem_range.2 (List.idxOf_lt_length_of_mem hm), rfl⟩
          unfold bring
          rw [if_pos h4]
        · have e3 : bring T k = T ++ [k] := by unfold bring; rw [if_neg hm]
          rw [e3, at1_new hm]
          have h4 : (T.length : Int) ∉ (List.range T.length).map (fun q : Nat => (q : Int)) := fun h => by
            obtain ⟨q, hq, e⟩ := List.mem_map.1 h
            have := List.mem_range.1 hq
            omega
          unfold bring
          rw [if_neg h4, List.length_append, List.length_singleton, List.range_succ, List.map_append]
          rfl
    · rw [if_neg hi]
      rw [bfs, if_neg hi]

/-- A copy of a copy is the copy. -/
theorem copy_copy {G : List Cl} (hG : KidsIn G) : copyF (copyF G) = copyF G := by
  by_cases h0 : G.length = 0
  · rw [copyF_none h0]; rfl
  · have h0 : 0 < G.length := by omega
    have hp := copyF_pos hG h0
    have hl := copyF_len h0
    have hr : reach (copyF G) = (List.range (reach G).length).map (fun q : Nat => (q : Int)) := by
      have h1 : ¬ (reach G).length < (bfs G (reach G).length).length := by
        obtain ⟨r, hr⟩ := bfs_reach hG h0 (reach G).length
        have := congrArg List.length hr
        rw [List.length_append] at this
        omega
      have h2 : bfs G (copyF G).length = reach G := by rw [hl]; exact bfs_end hG h0 h1
      have h3 : reach (copyF G) = bfs (copyF G) (copyF G).length := rfl
      rw [h3, bfs_copy hG h0, h2]
    have hlr : (reach (copyF G)).length = (reach G).length := by rw [hr]; simp
    refine cl_ext (by rw [copyF_len hp, hlr, hl]) (fun i hi => ?_)
    rw [copyF_len hp] at hi
    have hi2 : i < (reach G).length := by omega
    rw [copyF_cl hp hi]
    have e : (reach (copyF G)).getD i 0 = i := by
      rw [hr, getD_elem _ _ (by simpa using hi2)]; simp
    rw [e]
    unfold copyC
    rw [Int.toNat_natCast]
    have hm : ∀ k ∈ (cl (copyF G) i).ks, at1 (reach (copyF G)) k = k := fun k hk => by
      obtain ⟨q, eq, hq⟩ := copyF_kids hG i (by omega) k hk
      have := at1_nth (T := reach (copyF G)) (reach_places (copyF_kids hG) hp).1 (i := q) (by omega)
      have e5 : (reach (copyF G)).getD q 0 = q := by rw [hr, getD_elem _ _ (by simp; omega)]; simp
      rw [e5] at this
      rw [eq]
      exact this
    have : (cl (copyF G) i).ks.map (at1 (reach (copyF G))) = (cl (copyF G) i).ks := by
      rw [List.map_congr_left hm]
      simp
    rw [this]

/-- What no way leads to doesn't matter. -/
theorem copy_more {C : List Cl} (M : List Cl) (hC : KidsIn C) (h0 : 0 < C.length) : copyF (C ++ M) = copyF C := by
  have hl : ∀ i, i < C.length → cl (C ++ M) i = cl C i := fun i hi => by
    rw [cl_elem (by simp; omega), cl_elem hi, List.getElem_append_left hi]
  have h1 : 0 < (C ++ M).length := by simp; omega
  have hb := bfs_like (G := C) (H := C ++ M) (n := C.length) (fun i hi => (hl i hi).symm) h0 hC
  have hr : reach (C ++ M) = reach C := by
    have h2 : ¬ C.length < (bfs C C.length).length := by have := bfs_short hC h0 C.length; omega
    have h3 := bfs_stop h2 M.length
    have e1 : reach (C ++ M) = bfs (C ++ M) (C ++ M).length := rfl
    rw [e1, ← (hb _).1, List.length_append, h3]
    rfl
  refine cl_ext (by rw [copyF_len h1, copyF_len h0, hr]) (fun i hi => ?_)
  rw [copyF_len h1, hr] at hi
  rw [copyF_cl h1 (by rw [hr]; exact hi), copyF_cl h0 hi, hr]
  obtain ⟨q, e, hq⟩ := (reach_places hC h0).2 ((reach C).getD i 0) (by rw [getD_elem _ _ hi]; exact List.getElem_mem hi)
  rw [e]
  unfold copyC
  rw [Int.toNat_natCast, hl q hq]

/-- In step: where y of the copy is of x, the numbers are alike, and so are the kids, in turn. -/
theorem copy_step {G : List Cl} (hG : KidsIn G) (h0 : 0 < G.length) {x y : Nat} (hy : y < (reach G).length) (e : (reach G).getD y 0 = x) :
    (cl (copyF G) y).n = (cl G x).n ∧ (cl (copyF G) y).ks.length = (cl G x).ks.length ∧
      ∀ j, j < (cl G x).ks.length → ∃ x' y' : Nat, (cl G x).ks.getD j 0 = x' ∧ x' < G.length ∧ (cl (copyF G) y).ks.getD j 0 = y' ∧ y' < (reach G).length ∧ (reach G).getD y' 0 = x' := by
  rw [copyF_cl h0 hy, e]
  have hx : x < G.length := by
    obtain ⟨q, e2, hq⟩ := (reach_places hG h0).2 ((reach G).getD y 0) (by rw [getD_elem _ _ hy]; exact List.getElem_mem hy)
    omega
  refine ⟨by unfold copyC; rw [Int.toNat_natCast], by unfold copyC; rw [Int.toNat_natCast, List.length_map], fun j hj => ?_⟩
  have hm : (cl G x).ks[j] ∈ (cl G x).ks := List.getElem_mem hj
  obtain ⟨q, e2, hq⟩ := hG x hx _ hm
  have hk : (cl G x).ks[j] ∈ reach G := reach_kids hG h0 hy (by rw [e, Int.toNat_natCast]; exact hm)
  have := at1_get hk
  refine ⟨q, (at1 (reach G) (cl G x).ks[j]).toNat, by rw [getD_elem _ _ hj]; exact e2, hq, ?_, this.1, by rw [this.2]; exact e2⟩
  unfold copyC
  rw [Int.toNat_natCast, getD_elem _ _ (by rw [List.length_map]; exact hj), List.getElem_map]
  unfold at1
  simp
end Go.Proofs.YtgjfmepbphfjoaaGreat
