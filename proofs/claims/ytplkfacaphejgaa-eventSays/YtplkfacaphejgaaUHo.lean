/-
  bySpot: the hearers of each spot, in order.
-/
import Derived.Test.YtplkfacaphejgaaUHcNx
import Derived.Test.YtplkfacaphejgaaURsHfHk
import Derived.Maps.AppendAt
namespace Go.Proofs.Ytplkfacaphejgaa
open Go.RowKit
set_option linter.unusedVariables false

theorem infoHearer : (Try.prog.info? 39).map (fun i => (i.zero, i.size, i.bytes)) = some (some (.agg #[.int .i64 0, .bool false, .bool false, .bool false, .int .i64 0]), 5, 24) := by kernel_rfl
def hcell (h : Hr) : List Value := [.int .i64 h.pl, .bool h.dn, .bool h.on, .bool h.st, .int .i64 h.id]
def hcells (L : List Hr) : List Value := L.flatMap hcell
theorem hcells_snoc (L : List Hr) (h : Hr) : hcells (L ++ [h]) = hcells L ++ hcell h := by simp [hcells]
theorem hcells_len (L : List Hr) : (hcells L).length = L.length * 5 := by
  unfold hcells
  induction L with
  | nil => rfl
  | cons h t ih => rw [List.flatMap_cons, List.length_append, ih]; simp [hcell]; omega
theorem hcells_at (L : List Hr) : ∀ {i j : Nat}, i < L.length → j < 5 → (hcells L)[i * 5 + j]? = (hcell (hr L i))[j]? := by
  induction L with
  | nil => intro i j h; simp at h
  | cons h t ih =>
    intro i j hi hj
    unfold hcells
    rw [List.flatMap_cons]
    cases i with
    | zero =>
      rw [List.getElem?_append_left (by simp [hcell]; omega), Nat.zero_mul, Nat.zero_add]
      rfl
    | succ i =>
      rw [List.getElem?_append_right (by simp [hcell]; omega)]
      have e : (i + 1) * 5 + j - (hcell h).length = i * 5 + j := by simp [hcell]; omega
      rw [e]
      exact ih (by simp at hi; omega) hj
theorem hcell_one (h : Hr) : ∀ u ∈ hcell h, u.oneCell' = true := fun u hu => by
  unfold hcell at hu
  simp at hu
  rcases hu with rfl | rfl | rfl | rfl | rfl <;> rfl
theorem hcells_one (L : List Hr) : ∀ u ∈ hcells L, u.oneCell' = true := fun u hu => by
  unfold hcells at hu
  obtain ⟨h, _, hu⟩ := List.mem_flatMap.1 hu
  exact hcell_one h u hu
theorem hrs_own {B : Nat} {w : World} {v : Value} {L : List Hr} (h : w.ownsRow B 39 5 v L.length (hcells L)) : ∃ a c, v = .slice a L.length c ∧ HrsAt w a L := by
  have hc := fun g hg => h.cells (g := g) hg
  rcases h.2 with ⟨rfl, h0⟩ | ⟨g, cap, cur, rfl, _⟩
  · exact ⟨none, 0, by rw [h0], fun i hi => by omega⟩
  · refine ⟨some ⟨g, 0, none⟩, cap, rfl, fun i hi => ⟨g, 0, rfl, ?_⟩⟩
    have hx : ∀ j u, j < 5 → (hcell (hr L i))[j]? = some u → w.cell? ⟨g, 0 + i * 5 + j, none⟩ = some u := fun j u hj hu => by
      have := hc g rfl (i * 5 + j) u (by rw [hcells_at L hi hj]; exact hu)
      rw [Nat.zero_add]
      rwa [Addr.add_lit, Nat.zero_add] at this
    exact ⟨hx 0 _ (by omega) rfl, hx 1 _ (by omega) rfl, hx 2 _ (by omega) rfl, hx 3 _ (by omega) rfl, hx 4 _ (by omega) rfl⟩
theorem newsH {w : World} {b : Nat} {x : Hr} (c0 : w.cell? ⟨b, 0, none⟩ = some (.int .i64 x.pl)) (c1 : w.cell? ⟨b, 1, none⟩ = some (.bool x.dn)) (c2 : w.cell? ⟨b, 2, none⟩ = some (.bool x.on)) (c3 : w.cell? ⟨b, 3, none⟩ = some (.bool x.st)) (c4 : w.cell? ⟨b, 4, none⟩ = some (.int .i64 x.id)) : ∀ j u, (hcell x)[j]? = some u → w.cell? ((⟨b, 0, none⟩ : Addr).add j) = some u := fun j u hj => by
  rw [Addr.add_lit, Nat.zero_add]
  unfold hcell at hj
  match j, hj with
  | 0, hj => cases hj; exact c0
  | 1, hj => cases hj; exact c1
  | 2, hj => cases hj; exact c2
  | 3, hj => cases hj; exact c3
  | 4, hj => cases hj; exact c4

theorem hear_snoc (M : List Hr) (h : Hr) (x : Spot) : hearF (M ++ [h]) x = hearF M x ++ if (h.pl, h.dn) = x then [h] else [] := by
  unfold hearF
  rw [List.filter_append]
  by_cases e : (h.pl, h.dn) = x
  · rw [if_pos e]
    subst e
    simp [atSpot]
  · rw [if_neg e, List.filter_cons_of_neg]
    · rfl
    · intro h2
      apply e
      unfold atSpot at h2
      obtain ⟨p, d⟩ := x
      simp at h2
      rw [h2.1, h2.2]

/-- The map b holds the hearers of M, spot by spot, in rows of the call's own from B on. -/
structure Groups (B : Nat) (w : World) (b : Nat) (E : List (Spot × Value)) (M : List Hr) : Prop where
  map : SpotMap w b E
  low : b < B
  here : ∀ h ∈ M, ∃ v, ((h.pl, h.dn), v) ∈ E
  row : ∀ (i : Nat) (x : Spot) (v : Value), E[i]? = some (x, v) → w.ownsRow B 39 5 v (hearF M x).length (hcells (hearF M x))
  apart : ∀ (i j : Nat) (x y : Spot) (u v : Value), E[i]? = some (x, u) → E[j]? = some (y, v) → i ≠ j → x ≠ y ∧ ∀ k, u.ownBlock = some k → v.ownBlock ≠ some k

theorem Groups.look {B : Nat} {w : World} {b : Nat} {E : List (Spot × Value)} {M : List Hr} (g : Groups B w b E M) (x : Spot) : ∃ a c, getE E x = .slice a (hearF M x).length c ∧ HrsAt w a (hearF M x) := by
  unfold getE
  cases hf : findF x E 0 with
  | some y =>
    obtain ⟨i, v⟩ := y
    obtain ⟨_, h2⟩ := findF_some hf
    obtain ⟨a, c, e, h3⟩ := hrs_own (g.row _ x v h2)
    exact ⟨a, c, e, h3⟩
  | none =>
    have e : hearF M x = [] := by
      rw [List.eq_nil_iff_forall_not_mem]
      intro h hh
      obtain ⟨hm, he⟩ := hear_mem.1 hh
      obtain ⟨v, hv⟩ := g.here h hm
      exact findF_none hf _ hv he
    rw [e]
    exact ⟨none, 0, rfl, fun i hi => absurd hi (Nat.not_lt_zero _)⟩

theorem get_set_same {E : List (Spot × Value)} {i : Nat} {x : Spot} {u v : Value} (h : E[i]? = some (x, u)) : (E.set i (x, v))[i]? = some (x, v) := by
  have := (List.getElem?_eq_some_iff.1 h).1
  simp [this]
theorem get_set_other {E : List (Spot × Value)} {i j : Nat} {y : Spot × Value} (h : i ≠ j) : (E.set i y)[j]? = E[j]? := by simp [h]

/-- One hearer more, into a row that is there (or that was made empty just now). -/
theorem Groups.step {B : Nat} {w w3 w4 : World} {b i : Nat} {E : List (Spot × Value)} {M : List Hr} {h : Hr} {v v' : Value}
    (gm : SpotMap w b E) (gl : b < B) (gh : ∀ z ∈ M, ∃ v, ((z.pl, z.dn), v) ∈ E) (gr : ∀ (i : Nat) (x : Spot) (v : Value), E[i]? = some (x, v) → w.ownsRow B 39 5 v (hearF M x).length (hcells (hearF M x)))
    (ga : ∀ (i j : Nat) (x y : Spot) (u v : Value), E[i]? = some (x, u) → E[j]? = some (y, v) → i ≠ j → x ≠ y ∧ ∀ k, u.ownBlock = some k → v.ownBlock ≠ some k)
    (hi : E[i]? = some ((h.pl, h.dn), v)) (hown : w3.ownsRow B 39 5 v' ((hearF M (h.pl, h.dn)).length + 1) (hcells (hearF M (h.pl, h.dn)) ++ hcell h)) (hg : w.grownBy w3 v.ownBlock) (hat : v'.ownBlock = v.ownBlock ∨ v'.ownBlock = some w.heap.size)
    (hm4 : SpotMap w4 b (E.set i ((h.pl, h.dn), v'))) (hg4 : w3.grownBy w4 (some b)) : Groups B w4 b (E.set i ((h.pl, h.dn), v')) (M ++ [h]) := by
  have hlt : i < E.length := (List.getElem?_eq_some_iff.1 hi).1
  have low : ∀ (u : Value) (n : Nat) (xs : List Value), w3.ownsRow B 39 5 u n xs → w4.ownsRow B 39 5 u n xs := fun u n xs hu => owns_block hu (fun k hk => hg4.block k (hu.lt k hk).2 (fun e => by have := (hu.lt k hk).1; have e2 : k = b := Option.some.inj e; omega))
  refine ⟨hm4, gl, fun z hz => ?_, fun j x u hj => ?_, fun j k x y u1 u2 hj hk hne => ?_⟩
  · rcases List.mem_append.1 hz with hz | hz
    · obtain ⟨u, hu⟩ := gh z hz
      obtain ⟨j, hj, hju⟩ := List.getElem_of_mem hu
      have hj2 : E[j]? = some ((z.pl, z.dn), u) := by rw [List.getElem?_eq_getElem hj, hju]
      by_cases e : i = j
      · subst e
        rw [hi] at hj2
        simp at hj2
        refine ⟨v', List.mem_of_getElem? (i := i) ?_⟩
        rw [get_set_same hi, hj2.1.1, hj2.1.2]
      · exact ⟨u, List.mem_of_getElem? (i := j) (by rw [get_set_other e]; exact hj2)⟩
    · rw [List.mem_singleton.1 hz]
      exact ⟨v', List.mem_of_getElem? (i := i) (get_set_same hi)⟩
  · by_cases e : i = j
    · subst e
      rw [get_set_same hi] at hj
      simp at hj
      obtain ⟨rfl, rfl⟩ := hj
      rw [hear_snoc, if_pos rfl, hcells_snoc, List.length_append, List.length_singleton]
      exact low _ _ _ hown
    · rw [get_set_other e] at hj
      obtain ⟨hxy, hap⟩ := ga i j _ _ _ _ hi hj e
      rw [hear_snoc, if_neg hxy, List.append_nil]
      exact low _ _ _ (owns_block (gr j x u hj) (fun k hk => hg.block k ((gr j x u hj).lt k hk).2 (fun e2 => hap k e2.symm hk)))
  · have fresh : ∀ (j : Nat) (x : Spot) (u : Value), E[j]? = some (x, u) → u.ownBlock ≠ some w.heap.size := fun j x u hj hk => by have := ((gr j x u hj).lt _ hk).2; omega
    by_cases e : i = j
    · subst e
      rw [get_set_same hi] at hj
      rw [get_set_other hne] at hk
      simp at hj
      obtain ⟨rfl, rfl⟩ := hj
      obtain ⟨hxy, hap⟩ := ga i k _ _ _ _ hi hk hne
      refine ⟨hxy, fun q hq => ?_⟩
      rcases hat with h1 | h1
      · exact hap q (by rw [← h1]; exact hq)
      · rw [h1] at hq
        cases hq
        exact fresh k y u2 hk
    · rw [get_set_other e] at hj
      by_cases e2 : i = k
      · subst e2
        rw [get_set_same hi] at hk
        simp at hk
        obtain ⟨rfl, rfl⟩ := hk
        obtain ⟨hxy, hap⟩ := ga j i _ _ _ _ hj hi (fun e3 => e e3.symm)
        refine ⟨hxy, fun q hq => ?_⟩
        rcases hat with h1 | h1
        · rw [h1]; exact hap q hq
        · rw [h1]
          intro e3
          cases e3
          exact fresh j x u1 hj hq
      · rw [get_set_other e2] at hk
        exact ga j k x y u1 u2 hj hk hne

theorem get_snoc {E : List (Spot × Value)} {i : Nat} {y z : Spot × Value} (h : (E ++ [z])[i]? = some y) : (i < E.length ∧ E[i]? = some y) ∨ (i = E.length ∧ y = z) := by
  rcases Nat.lt_trichotomy i E.length with h1 | h1 | h1
  · left
    rw [List.getElem?_append_left h1] at h
    exact ⟨h1, h⟩
  · right
    subst h1
    simp at h
    exact ⟨rfl, h.symm⟩
  · rw [List.getElem?_eq_none (by simp; omega)] at h
    cases h

/-- What is asked of a row that is appended to: the row at the spot of h, in a map that has that spot; and what then becomes of it. -/
theorem Groups.enter {B : Nat} {w : World} {b : Nat} {E : List (Spot × Value)} {M : List Hr} (g : Groups B w b E M) (h : Hr) (hB : B ≤ w.heap.size) :
    ∃ (w2 : World) (E2 : List (Spot × Value)) (i : Nat) (v : Value), (Instr.mapEntry 44 (.map (some b)) (spotV (h.pl, h.dn))).run Try.prog w = .ok (.tuple #[v, goInt i]) w2 ∧ w.grownBy w2 (some b) ∧ E2[i]? = some ((h.pl, h.dn), v) ∧ SpotMap w2 b E2 ∧ i ≤ E.length ∧ E2.length ≤ E.length + 1 ∧ (∃ va vc, v = .slice va (hearF M (h.pl, h.dn)).length vc) ∧
      w2.ownsRow B 39 5 v (hearF M (h.pl, h.dn)).length (hcells (hearF M (h.pl, h.dn))) ∧
      (∀ (w3 w4 : World) (v' : Value), w3.ownsRow B 39 5 v' ((hearF M (h.pl, h.dn)).length + 1) (hcells (hearF M (h.pl, h.dn)) ++ hcell h) → w2.grownBy w3 v.ownBlock → (v'.ownBlock = v.ownBlock ∨ v'.ownBlock = some w2.heap.size) → SpotMap w4 b (E2.set i ((h.pl, h.dn), v')) → w3.grownBy w4 (some b) → Groups B w4 b (E2.set i ((h.pl, h.dn), v')) (M ++ [h])) := by
  cases hf : findF (h.pl, h.dn) E 0 with
  | some y =>
    obtain ⟨i, v⟩ := y
    obtain ⟨_, h2⟩ := findF_some hf
    rw [Nat.sub_zero] at h2
    have hrow := g.row i _ v h2
    refine ⟨w, E, i, v, entry_old g.map _ hf, ⟨rfl, rfl, rfl, Nat.le_refl _, fun _ _ _ => rfl⟩, h2, g.map, Nat.le_of_lt (List.getElem?_eq_some_iff.1 h2).1, by omega, ?_, hrow, fun w3 w4 v' a1 a2 a3 a4 a5 => Groups.step g.map g.low g.here g.row g.apart h2 a1 a2 a3 a4 a5⟩
    obtain ⟨a, c, e, _⟩ := hrs_own hrow
    exact ⟨a, c, e⟩
  | none =>
    obtain ⟨w2, h1, h2, h3⟩ := entry_new g.map _ hf
    have e : hearF M (h.pl, h.dn) = [] := by
      rw [List.eq_nil_iff_forall_not_mem]
      intro z hz
      obtain ⟨hm, he⟩ := hear_mem.1 hz
      obtain ⟨v, hv⟩ := g.here z hm
      exact findF_none hf _ hv he
    have keep : ∀ (u : Value) (n : Nat) (xs : List Value), w.ownsRow B 39 5 u n xs → w2.ownsRow B 39 5 u n xs := fun u n xs hu => owns_block hu (fun k hk => h3.block k (hu.lt k hk).2 (fun e => by have := (hu.lt k hk).1; have e2 : k = b := Option.some.inj e; have := g.low; omega))
    have hi2 : (E ++ [((h.pl, h.dn), Value.slice none 0 0)])[E.length]? = some ((h.pl, h.dn), Value.slice none 0 0) := by simp
    refine ⟨w2, E ++ [((h.pl, h.dn), .slice none 0 0)], E.length, .slice none 0 0, h1, h3, hi2, h2, Nat.le_refl _, by simp, ?_, ?_, ?_⟩
    · rw [e]; exact ⟨none, 0, rfl⟩
    · rw [e]; exact World.ownsRow_nil _ _ _ _
    · intro w3 w4 v' a1 a2 a3 a4 a5
      refine Groups.step h2 g.low (fun z hz => ?_) (fun i x v hi => ?_) (fun i j x y u v hi hj hne => ?_) hi2 a1 a2 a3 a4 a5
      · obtain ⟨v, hv⟩ := g.here z hz
        exact ⟨v, List.mem_append_left _ hv⟩
      · rcases get_snoc hi with ⟨_, h4⟩ | ⟨_, h4⟩
        · exact keep _ _ _ (g.row i x v h4)
        · cases h4
          rw [e]
          exact World.ownsRow_nil _ _ _ _
      · rcases get_snoc hi with ⟨l1, h4⟩ | ⟨l1, h4⟩
        · rcases get_snoc hj with ⟨l2, h5⟩ | ⟨l2, h5⟩
          · exact g.apart i j x y u v h4 h5 hne
          · cases h5
            exact ⟨fun e2 => findF_none hf _ (List.mem_of_getElem? h4) e2, fun k _ hk => by cases hk⟩
        · cases h4
          rcases get_snoc hj with ⟨l2, h5⟩ | ⟨l2, h5⟩
          · exact ⟨fun e2 => findF_none hf _ (List.mem_of_getElem? h5) e2.symm, fun k hk => by cases hk⟩
          · omega

set_option maxRecDepth 100000 in
set_option maxHeartbeats 2000000 in
theorem bySpot_any (a : Option Addr) (c : Nat) (L : List Hr) (w : World) (hN : L.length ≤ 24) (hL : HrsAt w a L) :
    Calls Try.prog 12 #[.slice a L.length c] w fun e w' => ∃ E, e = .returned (.map (some w.heap.size)) ∧ Below w.heap.size w w' ∧ Groups (w.heap.size + 1) w' w.heap.size E L := by
  obtain ⟨i0, hi0, hz0, hz1, hz2⟩ := info_parts infoHearer
  have HL : Hid (HrsAt w a L) := hL
  have hmm := @run_makeMap Try.prog
  have G0 : Hid (Groups (w.heap.size + 1) (w.alloc (.map #[] 0)) w.heap.size [] (L.take 0)) := by
    refine ⟨heap_alloc_new w _, Nat.lt_succ_self _, fun h hh => by simp at hh, fun i x v hi => by simp at hi, fun i j x y u v hi => by simp at hi⟩
  have TK : Hid (∀ i, i < L.length → L.take (i + 1) = L.take i ++ [hr L i]) := fun i hi => by rw [List.take_succ_eq_append_getElem hi, hr_elem hi]
  have TE : Hid (L.take L.length = L) := List.take_length
  have HE : Hid (∀ i x, i < L.length → (hearF (L.take i) x).length ≤ 24) := fun i x hi => by
    unfold hearF
    have h1 := List.length_filter_le (atSpot x) (L.take i)
    rw [List.length_take] at h1
    omega
  clear hL
  obtain ⟨n, hn⟩ : ∃ n, L.length = n := ⟨_, rfl⟩
  have HN : Hid (L.length = n) := hn
  rw [hn] at hN TK TE HE ⊢
  clear hn
  go_enter Try.func12, Try.ntmps12
  go_wp2_with fail
  go_loopg [10] n (fun g s10 wr => ∃ (i : Nat) (E : List (Spot × Value)), i ≤ n ∧ n - i ≤ g ∧ s10 = .int .i64 i ∧ Hid (Below w.heap.size w wr) ∧ w.heap.size < wr.heap.size ∧ Hid (Groups (w.heap.size + 1) wr w.heap.size E (L.take i)))
  case atStart => exact ⟨0, [], by omega, by omega, rfl, one_belowS _ _, by simp, G0⟩
  case round =>
    obtain ⟨i, E, hi, hg, rfl, HBr, hsz, GR⟩ := hrel
    clear G0
    by_cases hlt : i < n
    · have hlt2 : (i : Int) < (n : Int) := by omega
      obtain ⟨b, o, ea, c0, c1, c2, c3, c4⟩ := (HL.out.below HBr.out) i (by rw [HN.out]; exact hlt)
      subst ea
      have q0 := World.block_lt_of_cell? _ _ c0
      have TKi : Hid _ := TK.out i hlt
      have hel := HE.out i ((hr L i).pl, (hr L i).dn) hlt
      -- the world in which the entry is asked for: two boxes and the row of one more
      have NEWS : ∀ j u, (hcell (hr L i))[j]? = some u → (((wr.alloc (.cells #[.int .i64 (hr L i).pl, .bool (hr L i).dn, .bool (hr L i).on, .bool (hr L i).st, .int .i64 (hr L i).id] 39)).alloc (.cells #[.int .i64 (hr L i).pl, .bool (hr L i).dn] 49)).alloc (.cells #[.int .i64 (hr L i).pl, .bool (hr L i).dn, .bool (hr L i).on, .bool (hr L i).st, .int .i64 (hr L i).id] 39)).cell? ((⟨wr.heap.size + 1 + 1, 0, none⟩ : Addr).add j) = some u := newsH (by go_simp) (by go_simp) (by go_simp) (by go_simp) (by go_simp)
      obtain ⟨W3, hW3⟩ : ∃ W3, ((wr.alloc (.cells #[.int .i64 (hr L i).pl, .bool (hr L i).dn, .bool (hr L i).on, .bool (hr L i).st, .int .i64 (hr L i).id] 39)).alloc (.cells #[.int .i64 (hr L i).pl, .bool (hr L i).dn] 49)).alloc (.cells #[.int .i64 (hr L i).pl, .bool (hr L i).dn, .bool (hr L i).on, .bool (hr L i).st, .int .i64 (hr L i).id] 39) = W3 := ⟨_, rfl⟩
      have hb3 : Below wr.heap.size wr W3 := by rw [← hW3]; exact ((two_belowS wr _ _).alloc (by simp; omega) _)
      have hs3 : W3.heap.size = wr.heap.size + 1 + 1 + 1 := by rw [← hW3]; simp
      have g3 : Groups (w.heap.size + 1) W3 w.heap.size E (L.take i) := by
        have g := GR.out
        refine ⟨(hb3.block _ hsz).trans g.map, g.low, g.here, fun j x v hj => owns_block (g.row j x v hj) (fun k hk => hb3.block k ((g.row j x v hj).lt k hk).2), g.apart⟩
      obtain ⟨W4, E2, idx, v, hent, hgr4, hidx, hm4, hile, hel2, ⟨va, vc, hv⟩, hown4, FIN⟩ := g3.enter (hr L i) (by omega)
      subst hv
      have hc4 : ∀ j u, (hcell (hr L i))[j]? = some u → W4.cell? ((⟨wr.heap.size + 1 + 1, 0, none⟩ : Addr).add j) = some u := by
        have hk : W4.heap[wr.heap.size + 1 + 1]? = W3.heap[wr.heap.size + 1 + 1]? := hgr4.block _ (by omega) (fun e => by have e2 : wr.heap.size + 1 + 1 = w.heap.size := Option.some.inj e; omega)
        intro j u hj
        have h3 := NEWS j u hj
        rw [hW3] at h3
        rw [Addr.add_lit] at h3 ⊢
        exact (World.cell?_of_block hk).trans h3
      have hb4 : Below w.heap.size w W4 := (HBr.out.trans (hb3.mono HBr.out.size)).grown hgr4 (by omega) (fun k hk => by cases hk; exact Nat.le_refl _)
      have hs4 : wr.heap.size + 1 + 1 + 1 ≤ W4.heap.size := by have := hgr4.size; omega
      rw [← hW3] at hent
      unfold spotV goInt at hent
      dsimp only at hent
      have HB4 : Hid (Below w.heap.size w W4) := hb4
      have HO4 : Hid _ := hown4
      have HC4 : Hid _ := hc4
      have HF : Hid _ := FIN
      have HM4 : Hid (SpotMap W4 w.heap.size E2) := hm4
      have HIX : Hid (E2[idx]? = some (((hr L i).pl, (hr L i).dn), Value.slice va (hearF (L.take i) ((hr L i).pl, (hr L i).dn)).length vc)) := hidx
      clear NEWS hb4 hown4 hc4 FIN hm4 hidx g3 hb3 hs3 hW3 GR hgr4 hile hel2
      obtain ⟨x, hx⟩ : ∃ x, hr L i = x := ⟨_, rfl⟩
      rw [hx] at c0 c1 c2 c3 c4 hent HO4 HC4 HF HIX TKi hel
      clear hx
      obtain ⟨xp, xd, xo, xs, xi⟩ := x
      dsimp only at c0 c1 c2 c3 c4 hent HO4 HF HIX hel
      obtain ⟨ml, hml⟩ : ∃ z, (hearF (L.take i) (xp, xd)).length = z := ⟨_, rfl⟩
      rw [hml] at hent HO4 HF HIX hel
      clear hml
      have hb63 : ml + 1 ≤ maxLen := by unfold maxLen; omega
      have hb47 : (ml + 1) * 24 ≤ 140737488355328 := by omega
      go_wp2_with (at_builtin; refine wpList_append_own_at W4 rfl (.tmp 21) (.tmp 23) 25 rfl (w.heap.size + 1) 39 i0 (.agg #[.int .i64 0, .bool false, .bool false, .bool false, .int .i64 0]) 5 24 Try.underlying25 hi0 hz0 hz1 hz2 rfl (by decide) (.slice va ml vc) ml (hcells (hearF (L.take i) (xp, xd))) ?hs ?how ⟨wr.heap.size + 1 + 1, 0, none⟩ 1 1 (hcell ⟨xp, xd, xo, xs, xi⟩) ?hx rfl ?c1 ?c2 hb63 hb47 ?hbase ?_)
      case how => exact HO4.out
      case c1 => exact fun j u h => by have := HC4.out j u h; rwa [Addr.add_lit, Nat.zero_add] at this
      case c2 => exact hcell_one _
      case hbase => omega
      try case hs => rfl
      try case hx => rfl
      intro v' w5 own5 grow5 _ hat5
      have hm5 : SpotMap w5 w.heap.size E2 := by
        refine (grow5.block _ (by omega) (fun e => ?_)).trans HM4.out
        have := (World.ownsRow.lt HO4.out _ e.symm).1
        omega
      obtain ⟨w6, hst, hm6, hg6⟩ := entry_store hm5 _ HIX.out v'
      have HGN : Hid (Groups (w.heap.size + 1) w6 w.heap.size (E2.set idx ((xp, xd), v')) (L.take (i + 1))) := by
        have h1 := TKi.out
        show Groups _ _ _ _ _
        rw [h1]
        exact HF.out w5 w6 v' own5 grow5 hat5 hm6 hg6
      have HB6 : Hid (Below w.heap.size w w6) := (HB4.out.grown grow5 HB4.out.size (fun k hk => by have := (World.ownsRow.lt HO4.out k hk).1; omega)).grown hg6 (by have := grow5.size; have := HB4.out.size; omega) (fun k hk => by cases hk; exact Nat.le_refl _)
      have hs6 : w.heap.size < w6.heap.size := by have := grow5.size; have := hg6.size; omega
      obtain ⟨va5, vc5, hv5⟩ : ∃ va vc, v' = .slice va (ml + 1) vc := by
        rcases own5.2 with ⟨e, e0⟩ | ⟨g5, cap5, cur5, e, _⟩
        · exact ⟨none, 0, by rw [e, e0]⟩
        · exact ⟨_, cap5, e⟩
      subst hv5
      unfold goInt at hst
      clear own5 grow5 hat5 hm5 hm6 hg6 HF HO4 HC4 HM4 HIX
      go_wp2_with fail
      go_roundg (n - (i + 1))
      case measure => omega
      case rel => exact ⟨i + 1, _, by omega, by omega, by go_num, HB6, hs6, HGN⟩
    · have hie : i = n := by omega
      subst hie
      have HG : Hid (Groups (w.heap.size + 1) wr w.heap.size E L) := by have := GR.out; rw [TE.out] at this; exact this
      clear GR
      go_wp2_with fail
      go_ret
      exact ⟨E, rfl, HBr.out, HG.out⟩
end Go.Proofs.Ytplkfacaphejgaa
