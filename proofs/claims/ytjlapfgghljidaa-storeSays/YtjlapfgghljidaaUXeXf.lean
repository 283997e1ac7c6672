/-
  Stores of nodes that stand nowhere: the contracts of the store's functions over those.
-/
import Derived.Test.YtjlapfgghljidaaUXbXc
namespace Go.Proofs.Ytjlapfgghljidaa
open Go.RowKit

set_option maxHeartbeats 400000 in
theorem new_more (n : Nat) (w : World) (hn : n ≤ 24) :
    Calls Try.prog 10 #[.int .i64 n] w fun e w' => ∃ g, e = .returned (.tuple #[.agg #[.slice (some ⟨g, 0, none⟩) n n], .int .i64 0]) ∧ Below w.heap.size w w' ∧ (w.heap.size ≤ g ∧ g < w'.heap.size) ∧ NdsAt w' (some ⟨g, 0, none⟩) (List.replicate n unusedNd) := by
  have hmk := makeNodes n (by omega)
  go_enter Try.func10, Try.ntmps10
  go_wp2_with (go_at_call 38; refine (within_yes _ _ _ _ (by omega) (by omega)).mono ?_; rintro e w' ⟨rfl, rfl⟩)
  go_loopg [14] n (fun g s14 wr => ∃ (k : Nat) (F : Nat → Value), k ≤ n ∧ n - k ≤ g ∧ s14 = .int .i64 k ∧ Below (w.heap.size + 1) (w.alloc (Obj.cells #[Value.slice none 0 0] 24)) wr ∧ w.heap.size + 1 < wr.heap.size ∧ Hid (wr.rowIs (w.heap.size + 1) 35 (n * 8) F) ∧ Hid (∀ i, i < k → F (i * 8) = .bool false ∧ F (i * 8 + 1) = .int .i64 0 ∧ F (i * 8 + 2) = .int .i64 0 ∧ F (i * 8 + 3) = .int .i64 0 ∧ F (i * 8 + 4) = .int .i64 (-1) ∧ F (i * 8 + 5) = .slice none 0 0 ∧ F (i * 8 + 6) = .int .i64 (-1) ∧ F (i * 8 + 7) = .bool false))
  case atStart =>
    refine ⟨0, fun j => zeroVs[j % 8]!, Nat.zero_le _, by omega, rfl, (Below.refl _ _).alloc (by simp) _, by simp, ?_, (show Hid _ from fun i hi => absurd hi (Nat.not_lt_zero _))⟩
    have h := row_madeNodes (w.alloc (Obj.cells #[Value.slice none 0 0] 24)) n
    simp only [World.size_alloc] at h
    exact h
  case round =>
    obtain ⟨k, F, hk, hg, rfl, hb, hsz, hR, A⟩ := hrel
    have hc0 : wr.cell? ⟨w.heap.size, 0, none⟩ = some (.slice none 0 0) := (hb.cell (by simp)).trans (by go_simp)
    have hf0 : wr.frozen? ⟨w.heap.size, 0, none⟩ = false := (hb.frozen (by simp)).trans (by go_simp)
    by_cases hlt : k < n
    · have q0 := hR.out.cell (i := k * 8) (by omega)
      have q1 := hR.out.cell (i := k * 8 + 1) (by omega)
      have q2 := hR.out.cell (i := k * 8 + 2) (by omega)
      have q3 := hR.out.cell (i := k * 8 + 3) (by omega)
      have q4 := hR.out.cell (i := k * 8 + 4) (by omega)
      have q5 := hR.out.cell (i := k * 8 + 5) (by omega)
      have q6 := hR.out.cell (i := k * 8 + 6) (by omega)
      have q7 := hR.out.cell (i := k * 8 + 7) (by omega)
      have hfz := hR.out.frozen
      go_wp2_with (go_at_call 39; refine (unused_any _ _).mono ?_; rintro e w' ⟨rfl, rfl⟩)
      go_roundg (n - (k + 1))
      case measure => omega
      case rel =>
        refine ⟨k + 1, _, by omega, by omega, by go_num, ?_, by simp; omega, (row_set8 hR.out (k * 8) _ _ _ _ _ _ _ _).alloc _, (show Hid _ from fun i hi => ?_)⟩
        · exact ((((((((hb.setCell (by simp) _).setCell (by simp) _).setCell (by simp) _).setCell (by simp) _).setCell (by simp) _).setCell (by simp) _).setCell (by simp) _).setCell (by simp) _).alloc (by simp; omega) _
        · by_cases e : i = k
          · subst e
            unfold put8
            refine ⟨?_, ?_, ?_, ?_, ?_, ?_, ?_, ?_⟩
            · rw [if_neg (by omega), if_neg (by omega), if_neg (by omega), if_neg (by omega), if_neg (by omega), if_neg (by omega), if_neg (by omega), if_pos rfl]
            · rw [if_neg (by omega), if_neg (by omega), if_neg (by omega), if_neg (by omega), if_neg (by omega), if_neg (by omega), if_pos rfl]
            · rw [if_neg (by omega), if_neg (by omega), if_neg (by omega), if_neg (by omega), if_neg (by omega), if_pos rfl]
            · rw [if_neg (by omega), if_neg (by omega), if_neg (by omega), if_neg (by omega), if_pos rfl]
            · rw [if_neg (by omega), if_neg (by omega), if_neg (by omega), if_pos rfl]
            · rw [if_neg (by omega), if_neg (by omega), if_pos rfl]
            · rw [if_neg (by omega), if_pos rfl]
            · rw [if_pos rfl]
          · obtain ⟨e0, e1, e2, e3, e4, e5, e6, e7⟩ := A.out i (by omega)
            refine ⟨?_, ?_, ?_, ?_, ?_, ?_, ?_, ?_⟩
            all_goals
              rw [put8_other (by omega)]
              assumption
    · have : k = n := by omega
      subst this
      go_wp2
      refine bodyPost_ret (v := .tuple #[.agg #[.slice (some ⟨w.heap.size + 1, 0, none⟩) k k], .int .i64 0]) (by simp [results, Try.results10, go_sem, hc0]) rfl ⟨w.heap.size + 1, rfl, ?_, ⟨by omega, by simp; omega⟩, fun i hi => ?_⟩
      · exact (((Below.refl _ _).alloc (Nat.le_refl _) _).trans (hb.mono (by omega))).setCell (Nat.le_refl _) _
      · have hi' : i < k := by simpa using hi
        have hR2 := hR.out.setOther (a := ⟨w.heap.size, 0, none⟩) (by simp) (.slice (some ⟨w.heap.size + 1, 0, none⟩) k k)
        obtain ⟨e0, e1, e2, e3, e4, e5, e6, e7⟩ := A.out i hi'
        rw [nd_replicate k i _ hi']
        refine ⟨w.heap.size + 1, 0, rfl, ?_⟩
        rw [Nat.zero_add]
        refine ⟨?_, ?_, ?_, ?_, ?_, ⟨none, 0, ?_, fun j hj => absurd hj (Nat.not_lt_zero _)⟩, ?_, ?_⟩
        · rw [hR2.cell (by omega), e0]; rfl
        · rw [hR2.cell (by omega), e1]; rfl
        · rw [hR2.cell (by omega), e2]; rfl
        · rw [hR2.cell (by omega), e3]; rfl
        · rw [hR2.cell (by omega), e4]; rfl
        · rw [hR2.cell (by omega), e5]; rfl
        · rw [hR2.cell (by omega), e6]; rfl
        · rw [hR2.cell (by omega), e7]; rfl

set_option maxHeartbeats 400000 in
theorem new_badXe (n : Int) (w : World) (hn : n < 0 ∨ 24 < n) :
    Calls Try.prog 10 #[.int .i64 n] w fun e w' => e = .returned (.tuple #[.agg #[.slice none 0 0], .int .i64 2]) ∧ Below w.heap.size w w' := by
  go_enter Try.func10, Try.ntmps10
  go_wp2_with (go_at_call 38; refine (within_no _ _ _ _ (by omega)).mono ?_; rintro e w' ⟨rfl, rfl⟩)
  refine bodyPost_ret (v := .tuple #[.agg #[.slice none 0 0], .int .i64 2]) (by simp [results, Try.results10, go_sem]) rfl ⟨rfl, ?_⟩
  exact (Below.refl _ _).alloc (Nat.le_refl _) _

end Go.Proofs.Ytjlapfgghljidaa
namespace Go.Proofs.Ytjlapfgghljidaa.Room
open Go.RowKit

def lst (n : Nat) (f : Nat → Nd) : List Nd := (List.range n).map f
theorem lst_len (n : Nat) (f : Nat → Nd) : (lst n f).length = n := by simp [lst]
theorem nd_lst {n : Nat} {f : Nat → Nd} {i : Nat} (h : i < n) : nd (lst n f) i = f i := by
  rw [nd_elem (by rw [lst_len]; exact h)]
  simp [lst]
theorem lst_set {n : Nat} {f : Nat → Nd} {k : Nat} (x : Nd) : (lst n f).set k x = lst n (fun i => if i = k then x else f i) := by
  apply List.ext_getElem
  · simp [lst]
  · intro i h1 h2
    simp only [lst, List.getElem_set, List.getElem_map, List.getElem_range]
    by_cases e : k = i
    · rw [if_pos e, if_pos e.symm]
    · rw [if_neg e, if_neg (Ne.symm e)]
theorem lst_congr {n : Nat} {f f' : Nat → Nd} (h : ∀ i, i < n → f i = f' i) : lst n f = lst n f' := by
  unfold lst
  exact List.map_congr_left (fun i hi => h i (List.mem_range.1 hi))
theorem lst_rep (n : Nat) (x : Nd) : List.replicate n x = lst n (fun _ => x) := by
  apply List.ext_getElem
  · simp [lst]
  · intro i h1 h2
    simp [lst]

def Sto (w : World) (g n : Nat) (f : Nat → Nd) : Prop := g < w.heap.size ∧ NdsAt w (some ⟨g, 0, none⟩) (lst n f) ∧ WF (lst n f) ∧ ∀ i, i < n → (f i).ks = []

theorem Sto.lt {w : World} {g n : Nat} {f : Nat → Nd} (h : Sto w g n f) : g < w.heap.size := h.1
theorem Sto.node {w : World} {g n : Nat} {f : Nat → Nd} (h : Sto w g n f) {i : Nat} (hi : i < n) : NdAt w g (i * 8) (f i) := by
  obtain ⟨b, o, e, hn⟩ := h.2.1 i (by rw [lst_len]; exact hi)
  cases e
  rw [nd_lst hi, Nat.zero_add] at hn
  exact hn
theorem cell_of {w w' : World} {g o : Nat} (hg : w'.heap[g]? = w.heap[g]?) : w'.cell? ⟨g, o, none⟩ = w.cell? ⟨g, o, none⟩ := by
  unfold World.cell?
  dsimp only
  rw [hg]
theorem Sto.of_block {w w' : World} {g n : Nat} {f : Nat → Nd} (h : Sto w g n f) (hg : w'.heap[g]? = w.heap[g]?) : Sto w' g n f := by
  refine ⟨?_, fun i hi => ⟨g, 0, rfl, ?_⟩, h.2.2⟩
  · have h1 := h.1
    have h2 : w.heap[g]? ≠ none := by simp [h1]
    rw [← hg] at h2
    by_cases e : g < w'.heap.size
    · exact e
    · exact absurd (by simp; omega) h2
  · rw [lst_len] at hi
    rw [nd_lst hi, Nat.zero_add]
    obtain ⟨c0, c1, c2, c3, c4, ⟨ka, kc, c5, _⟩, c6, c7⟩ := h.node hi
    refine ⟨(cell_of hg).trans c0, (cell_of hg).trans c1, (cell_of hg).trans c2, (cell_of hg).trans c3, (cell_of hg).trans c4, ⟨ka, kc, (cell_of hg).trans c5, ?_⟩, (cell_of hg).trans c6, (cell_of hg).trans c7⟩
    rw [h.2.2.2 i hi]
    exact ints_nil _ _
theorem Sto.below {B : Nat} {w w' : World} {g n : Nat} {f : Nat → Nd} (h : Sto w g n f) (hb : Below B w w') (hB : g < B) : Sto w' g n f := h.of_block (hb.block g hB)
theorem Sto.alloc {w : World} {g n : Nat} {f : Nat → Nd} (h : Sto w g n f) (o : Obj) : Sto (w.alloc o) g n f := h.of_block (((Below.refl _ w).alloc (Nat.le_refl _) o).block g h.1)
theorem Sto.setOther {w : World} {g n : Nat} {f : Nat → Nd} (h : Sto w g n f) {a : Addr} (ha : g ≠ a.block) (v : Value) : Sto (w.setCell a v) g n f := h.of_block (Below.heap_setCell _ _ _ _ ha)
theorem Sto.drewN {w : World} {g n : Nat} {f : Nat → Nd} (h : Sto w g n f) (q : Nat) : Sto (w.drewN q) g n f := h.of_block rfl
theorem Sto.drew {w : World} {g n : Nat} {f : Nat → Nd} (h : Sto w g n f) : Sto w.drew g n f := h.of_block rfl
theorem Sto.congr {w : World} {g n : Nat} {f f' : Nat → Nd} (h : Sto w g n f) (he : ∀ i, i < n → f i = f' i) : Sto w g n f' := by
  obtain ⟨h1, h2, h3, h4⟩ := h
  rw [lst_congr he] at h2 h3
  exact ⟨h1, h2, h3, fun i hi => by rw [← he i hi]; exact h4 i hi⟩
theorem Sto.big {w : World} {g n : Nat} {f : Nat → Nd} (h : Sto w g n f) : ∀ i, i < (lst n f).length → (nd (lst n f) i).ks.length ≤ 1000 := fun i hi => by have := h.2.2.1.kids_small hi; omega
theorem nds_lt {w : World} {g : Nat} {S : List Nd} (h : NdsAt w (some ⟨g, 0, none⟩) S) {k : Nat} (hk : k < S.length) : g < w.heap.size := by
  obtain ⟨b, o, e, c0, _⟩ := h k hk
  cases e
  exact World.block_lt_of_cell? _ _ c0

theorem new_any (n : Nat) (w : World) (hn : n ≤ 24) :
    Calls Try.prog 10 #[.int .i64 n] w fun e w' => ∃ g, e = .returned (.tuple #[.agg #[.slice (some ⟨g, 0, none⟩) n n], .int .i64 0]) ∧ Below w.heap.size w w' ∧ w.heap.size ≤ g ∧ Sto w' g n (fun _ => ⟨false, 0, 0, 0, -1, [], -1, false⟩) :=
  (new_more n w hn).mono (fun e w' ⟨g, e1, hb, ⟨hg1, hg2⟩, hS⟩ => ⟨g, e1, hb, hg1, hg2, by rw [lst_rep] at hS; exact hS, by have := wf_new n hn; rw [lst_rep] at this; exact this, fun _ _ => rfl⟩)

theorem make_many (b n c : Nat) (f : Nat → Nd) (t : Int) (w : World) (hn : n ≤ 24) (hS : Sto w b n f) (ht0 : 0 ≤ t) (ht1 : t ≤ 99) (hall : ∀ i, i < n → ((f i).u = true ∨ 1000000 ≤ (f i).n)) :
    Calls Try.prog 11 #[.agg #[.slice (some ⟨b, 0, none⟩) n c], .int .i64 t] w fun e w' => e = .returned (.tuple #[.agg #[.slice none 0 0], .agg #[.int .i64 0, .int .i64 0], .int .i64 1]) ∧ Below w.heap.size w w' := by
  have hE : makeE (lst n f) t = 1 := by
    unfold makeE
    rw [if_pos ((wf_iff _).2 hS.2.2.1), if_pos ⟨ht0, ht1⟩, if_neg]
    rw [Bool.not_eq_true, List.any_eq_false]
    intro x hx
    obtain ⟨i, hi, rfl⟩ := List.getElem_of_mem hx
    rw [← nd_elem hi, nd_lst (by rw [lst_len] at hi; exact hi)]
    unfold freeB
    rcases hall i (by rw [lst_len] at hi; exact hi) with h | h
    · simp [h]
    · simp
      intro _
      omega
  have h := Ytjlapfgghljidaa.make_err (some ⟨b, 0, none⟩) c (lst n f) t 1 w (by rw [lst_len]; omega) (fun i hi => Nat.le_trans (hS.big i hi) (by omega)) hS.2.1 hE (by omega)
  rw [lst_len] at h
  exact h

theorem make_ok (b n c : Nat) (f : Nat → Nd) (t : Int) (w : World) (hn : n ≤ 24) (hS : Sto w b n f) (ht0 : 0 ≤ t) (ht1 : t ≤ 99) (k : Nat) (hk : k < n) (h1 : (f k).u = false) (h0 : 0 ≤ (f k).n) (h2 : (f k).n < 1000000) (hall : ∀ i, i < k → ((f i).u = true ∨ 1000000 ≤ (f i).n)) :
    Calls Try.prog 11 #[.agg #[.slice (some ⟨b, 0, none⟩) n c], .int .i64 t] w fun e w' => ∃ g, e = .returned (.tuple #[.agg #[.slice (some ⟨g, 0, none⟩) n n], .agg #[.int .i64 k, .int .i64 ((f k).n + 1)], .int .i64 0]) ∧ Below w.heap.size w w' ∧ w.heap.size ≤ g ∧
      Sto w' g n (fun i => if i = k then { f k with u := true, n := (f k).n + 1, t := t } else f i) := by
  have hfr : freeB (nd (lst n f) k) = true := by
    rw [nd_lst hk]
    unfold freeB
    simp [h1, h2]
  have h := Ytjlapfgghljidaa.make_ok (some ⟨b, 0, none⟩) c (lst n f) t w (by rw [lst_len]; exact hn) hS.big hS.2.1 ((wf_iff _).2 hS.2.2.1) ht0 ht1 k (by rw [lst_len]; exact hk) hfr (by rw [nd_lst hk]; exact h0) (fun i hi => by
    rw [nd_lst (by omega)]
    unfold freeB
    rcases hall i hi with h | h
    · simp [h]
    · simp
      intro _
      omega)
  have hW := hS.2.2.1.make (by rw [lst_len]; exact hk) hfr ht0 ht1
  rw [nd_lst hk, lst_set] at hW
  rw [lst_len, nd_lst hk] at h
  refine h.mono ?_
  rintro e w' ⟨g, rfl, hb, hge, hS'⟩
  have hN := hS' w' (fun _ _ => rfl)
  have hlt := nds_lt hN (k := k) (by simp only [List.length_set, lst_len]; exact hk)
  rw [lst_set] at hN
  refine ⟨g, rfl, hb, hge, hlt, hN, hW, fun i hi => ?_⟩
  dsimp only
  split
  · exact hS.2.2.2 k hk
  · exact hS.2.2.2 i hi

theorem find_gone' {n : Nat} {f : Nat → Nd} {k : Nat} {x : Int} (hk : k < n) (h1 : 1 ≤ x) (h2 : x ≤ (f k).n) (hu : (f k).u = false ∨ x < (f k).n) : holdsE (lst n f) k x = 5 := by
  unfold holdsE
  rw [if_pos (by unfold isPl; rw [lst_len]; exact decide_eq_true ⟨by omega, by omega⟩), Int.toNat_natCast, nd_lst hk]
  unfold holdX
  rw [if_pos (decide_eq_true ⟨h1, h2⟩)]
  rcases hu with h | h
  · rw [h]
    rfl
  · split
    · rw [if_neg (by omega)]
    · rfl

theorem find_here {n : Nat} {f : Nat → Nd} {k : Nat} (hW : WF (lst n f)) (hk : k < n) (hu : (f k).u = true) : findE (lst n f) k (f k).n = 0 :=
  find_zero hW (holds_used (by rw [lst_len]; exact hk) (by rw [nd_lst hk]; exact hu) (by rw [nd_lst hk]) hW)

theorem holds_gone (b n c : Nat) (f : Nat → Nd) (k : Nat) (x : Int) (w : World) (hn : n ≤ 24) (hS : Sto w b n f) (hk : k < n) (h1 : 1 ≤ x) (h2 : x ≤ (f k).n) (hu : (f k).u = false ∨ x < (f k).n) :
    Calls Try.prog 21 #[.agg #[.slice (some ⟨b, 0, none⟩) n c], .agg #[.int .i64 k, .int .i64 x]] w fun e w' => e = .returned (.int .i64 5) ∧ Below w.heap.size w w' := by
  have h := holds_any (some ⟨b, 0, none⟩) c (lst n f) k x w (by rw [lst_len]; omega) hS.2.1
  rw [lst_len, find_gone' hk h1 h2 hu] at h
  exact h

theorem free_gone (b n c : Nat) (f : Nat → Nd) (k : Nat) (x : Int) (w : World) (hn : n ≤ 24) (hS : Sto w b n f) (hk : k < n) (h1 : 1 ≤ x) (h2 : x ≤ (f k).n) (hu : (f k).u = false ∨ x < (f k).n) :
    Calls Try.prog 13 #[.agg #[.slice (some ⟨b, 0, none⟩) n c], .agg #[.int .i64 k, .int .i64 x]] w fun e w' => e = .returned (.tuple #[.agg #[.slice none 0 0], .int .i64 5]) ∧ Below w.heap.size w w' := by
  have hE : findE (lst n f) k x = 5 := by
    unfold findE
    rw [if_pos ((wf_iff _).2 hS.2.2.1)]
    exact find_gone' hk h1 h2 hu
  have h := Ytjlapfgghljidaa.free_err (some ⟨b, 0, none⟩) c (lst n f) k x 5 w (by rw [lst_len]; omega) (fun i hi => Nat.le_trans (hS.big i hi) (by omega)) hS.2.1 hE (by omega)
  rw [lst_len] at h
  exact h

theorem free_ok (b n c : Nat) (f : Nat → Nd) (k : Nat) (w : World) (hn : n ≤ 24) (hS : Sto w b n f) (hk : k < n) (hu : (f k).u = true) (_h1 : 1 ≤ (f k).n) (hp : (f k).p = -1) (hh : (f k).h = -1) (hall : ∀ i, i < n → (f i).h ≠ k) :
    Calls Try.prog 13 #[.agg #[.slice (some ⟨b, 0, none⟩) n c], .agg #[.int .i64 k, .int .i64 (f k).n]] w fun e w' => ∃ g, e = .returned (.tuple #[.agg #[.slice (some ⟨g, 0, none⟩) n n], .int .i64 0]) ∧ Below w.heap.size w w' ∧ w.heap.size ≤ g ∧
      Sto w' g n (fun i => if i = k then ⟨false, (f k).n, 0, 0, -1, [], -1, false⟩ else f i) := by
  have hL : looseB (lst n f) k := by
    refine ⟨?_, by rw [nd_lst hk]; exact hS.2.2.2 k hk, hostB_false.2 (fun i hi => ?_)⟩
    · rw [nd_lst hk]
      unfold rightUnder
      rw [if_pos hh]
      exact hp
    · rw [lst_len] at hi
      rw [nd_lst hi]
      exact hall i hi
  have h := Ytjlapfgghljidaa.free_ok (some ⟨b, 0, none⟩) c (lst n f) k (f k).n w (by rw [lst_len]; exact hn) hS.big hS.2.1 (by rw [lst_len]; exact hk) (find_here hS.2.2.1 hk hu) hL
  have hW := hS.2.2.1.free (by rw [lst_len]; exact hk) hL
  rw [nd_lst hk, lst_set] at hW
  rw [lst_len, nd_lst hk] at h
  refine h.mono ?_
  rintro e w' ⟨g, rfl, hb, hge, hS'⟩
  have hN := hS' w' (fun _ _ => rfl)
  have hlt := nds_lt hN (k := k) (by simp only [List.length_set, lst_len]; exact hk)
  rw [lst_set] at hN
  refine ⟨g, rfl, hb, hge, hlt, hN, hW, fun i hi => ?_⟩
  dsimp only
  split
  · rfl
  · exact hS.2.2.2 i hi

theorem find_ok (b n c : Nat) (f : Nat → Nd) (k : Nat) (w : World) (hn : n ≤ 24) (hS : Sto w b n f) (hk : k < n) (hu : (f k).u = true) (_h1 : 1 ≤ (f k).n) :
    Calls Try.prog 12 #[.agg #[.slice (some ⟨b, 0, none⟩) n c], .agg #[.int .i64 k, .int .i64 (f k).n]] w fun e w' => ∃ ka kc, e = .returned (.tuple #[.agg #[.bool (f k).u, .int .i64 (f k).n, .int .i64 (f k).t, .int .i64 (f k).m, .int .i64 (f k).p, .slice ka 0 kc, .int .i64 (f k).h, .bool (f k).c], .int .i64 0]) ∧ Below w.heap.size w w' := by
  have h := Ytjlapfgghljidaa.find_ok (some ⟨b, 0, none⟩) c (lst n f) k (f k).n w (by rw [lst_len]; omega) (fun i hi => Nat.le_trans (hS.big i hi) (by omega)) hS.2.1 (by rw [lst_len]; exact hk) (find_here hS.2.2.1 hk hu) (by rw [nd_lst hk, hS.2.2.2 k hk]; exact Nat.zero_le _)
  rw [lst_len, nd_lst hk, hS.2.2.2 k hk] at h
  refine h.mono ?_
  rintro e w' ⟨g, rfl, hb, _⟩
  exact ⟨_, _, rfl, hb⟩
end Go.Proofs.Ytjlapfgghljidaa.Room

namespace Go.Proofs.Ytjlapfgghljidaa.Room
open Go.RowKit

/-- One place: used or not, how often, its tag. -/
def one (u : Bool) (n t : Int) : Nat → Nd := fun _ => ⟨u, n, t, 0, -1, [], -1, false⟩

theorem Sto.one_of {w : World} {g : Nat} {f : Nat → Nd} (h : Sto w g 1 f) {u : Bool} {n t : Int} (e : f 0 = ⟨u, n, t, 0, -1, [], -1, false⟩) : Sto w g 1 (one u n t) :=
  h.congr (fun i hi => by have : i = 0 := (by omega); subst this; exact e)

theorem make_one (b c : Nat) (n t0 t : Int) (w : World) (hS : Sto w b 1 (one false n t0)) (h0 : 0 ≤ n) (h1 : n < 1000000) (ht0 : 0 ≤ t) (ht1 : t ≤ 99) :
    Calls Try.prog 11 #[.agg #[.slice (some ⟨b, 0, none⟩) 1 c], .int .i64 t] w fun e w' => ∃ g, e = .returned (.tuple #[.agg #[.slice (some ⟨g, 0, none⟩) 1 1], .agg #[.int .i64 0, .int .i64 (n + 1)], .int .i64 0]) ∧ Below w.heap.size w w' ∧ w.heap.size ≤ g ∧ Sto w' g 1 (one true (n + 1) t) := by
  refine (make_ok b 1 c (one false n t0) t w (by omega) hS ht0 ht1 0 (by omega) rfl h0 h1 (fun i hi => by omega)).mono ?_
  rintro e w' ⟨g, rfl, hb, hg, hS'⟩
  exact ⟨g, rfl, hb, hg, hS'.one_of rfl⟩

theorem free_one (b c : Nat) (n t : Int) (w : World) (hS : Sto w b 1 (one true n t)) (h1 : 1 ≤ n) :
    Calls Try.prog 13 #[.agg #[.slice (some ⟨b, 0, none⟩) 1 c], .agg #[.int .i64 0, .int .i64 n]] w fun e w' => ∃ g, e = .returned (.tuple #[.agg #[.slice (some ⟨g, 0, none⟩) 1 1], .int .i64 0]) ∧ Below w.heap.size w w' ∧ w.heap.size ≤ g ∧ Sto w' g 1 (one false n 0) := by
  refine (free_ok b 1 c (one true n t) 0 w (by omega) hS (by omega) rfl h1 rfl rfl (fun i hi => by simp [one])).mono ?_
  rintro e w' ⟨g, rfl, hb, hg, hS'⟩
  exact ⟨g, rfl, hb, hg, hS'.one_of rfl⟩

theorem find_one (b c : Nat) (n t : Int) (w : World) (hS : Sto w b 1 (one true n t)) (h1 : 1 ≤ n) :
    Calls Try.prog 12 #[.agg #[.slice (some ⟨b, 0, none⟩) 1 c], .agg #[.int .i64 0, .int .i64 n]] w fun e w' => ∃ ka kc, e = .returned (.tuple #[.agg #[.bool true, .int .i64 n, .int .i64 t, .int .i64 0, .int .i64 (-1), .slice ka 0 kc, .int .i64 (-1), .bool false], .int .i64 0]) ∧ Below w.heap.size w w' :=
  find_ok b 1 c (one true n t) 0 w (by omega) hS (by omega) rfl h1

theorem gone_one (b c : Nat) (n t x : Int) (w : World) (hS : Sto w b 1 (one true n t)) (h1 : 1 ≤ x) (h2 : x < n) :
    Calls Try.prog 21 #[.agg #[.slice (some ⟨b, 0, none⟩) 1 c], .agg #[.int .i64 0, .int .i64 x]] w fun e w' => e = .returned (.int .i64 5) ∧ Below w.heap.size w w' :=
  holds_gone b 1 c (one true n t) 0 x w (by omega) hS (by omega) h1 (by show x ≤ n; omega) (Or.inr h2)

set_option maxHeartbeats 1600000 in
theorem stored_any (w : World) :
    Calls Try.prog 17 #[] w fun e w' => e = .returned (.bool true) ∧ Below w.heap.size w w' := by
  go_enter Try.func17, Try.ntmps17
  go_wp2_with fail
  refine (new_any 1 w (by omega)).mono ?_
  rintro e w1 ⟨g0, rfl, hb1, hg0, hS1⟩
  have hs1 := hb1.size
  have hl1 := hS1.lt
  have HS1 : Hid (Sto w1 g0 1 (one false 0 0)) := hS1.one_of rfl
  have HB1 : Hid (Below w.heap.size w w1) := hb1
  clear hS1 hb1
  go_wp2_with fail
  refine (make_one g0 1 0 0 5 _ (HS1.out.alloc _) (by omega) (by omega) (by omega) (by omega)).mono ?_
  rintro e w2 ⟨g1, rfl, hb2, hg1, hS2⟩
  have hs2 := hb2.size
  simp only [World.size_alloc] at hs2 hb2 hg1
  have hl2 := hS2.lt
  have hp2 : w2.cell? ⟨w1.heap.size, 0, none⟩ = some (.slice (some ⟨g0, 0, none⟩) 1 1) := (hb2.cell (by simp)).trans (by go_simp)
  have hf2 : w2.frozen? ⟨w1.heap.size, 0, none⟩ = false := (hb2.frozen (by simp)).trans (by go_simp)
  have HB2 : Hid (Below w.heap.size w w2) := (HB1.out.alloc hs1 _).trans (hb2.mono (by omega))
  have HS2 : Hid (Sto w2 g1 1 (one true 1 5)) := hS2
  have hlt2 : w1.heap.size < w2.heap.size := by omega
  clear hS2 hb2 HS1
  go_wp2_with fail
  refine (free_one g1 1 1 5 _ ((HS2.out.setOther (by simp; omega) _).alloc _) (by omega)).mono ?_
  rintro e w3 ⟨g2, rfl, hb3, hg2, hS3⟩
  have hs3 := hb3.size
  simp only [World.size_alloc, World.size_setCell] at hs3 hb3 hg2
  have hl3 := hS3.lt
  have hp3 : w3.cell? ⟨w1.heap.size, 0, none⟩ = some (.slice (some ⟨g1, 0, none⟩) 1 1) := (hb3.cell (by simp; omega)).trans (by go_simp)
  have hf3 : w3.frozen? ⟨w1.heap.size, 0, none⟩ = false := (hb3.frozen (by simp; omega)).trans (by go_simp)
  have ha3 : w3.cell? ⟨w2.heap.size, 0, none⟩ = some (.int .i64 0) := (hb3.cell (by simp)).trans (by go_simp)
  have hc3 : w3.cell? ⟨w2.heap.size, 1, none⟩ = some (.int .i64 1) := (hb3.cell (by simp)).trans (by go_simp)
  have HB3 : Hid (Below w.heap.size w w3) := ((HB2.out.setCell (by simp; omega) _).alloc (by simp; omega) _).trans (hb3.mono (by omega))
  have HS3 : Hid (Sto w3 g2 1 (one false 1 0)) := hS3
  have hlt3 : w1.heap.size < w3.heap.size := by omega
  have hlu3 : w2.heap.size < w3.heap.size := by omega
  clear hS3 hb3 HS2 hp2 hf2 HB2 HB1
  go_wp2_with fail
  refine (make_one g2 1 1 0 6 _ (HS3.out.setOther (by simp; omega) _) (by omega) (by omega) (by omega) (by omega)).mono ?_
  rintro e w4 ⟨g3, rfl, hb4, hg3, hS4⟩
  have hs4 := hb4.size
  simp only [World.size_setCell] at hs4 hb4 hg3
  have hl4 := hS4.lt
  have hne : w1.heap.size ≠ w2.heap.size := by omega
  have hp4 : w4.cell? ⟨w1.heap.size, 0, none⟩ = some (.slice (some ⟨g2, 0, none⟩) 1 1) := (hb4.cell (by simp; omega)).trans (by go_simp)
  have hf4 : w4.frozen? ⟨w1.heap.size, 0, none⟩ = false := (hb4.frozen (by simp; omega)).trans (by go_simp)
  have ha4 : w4.cell? ⟨w2.heap.size, 0, none⟩ = some (.int .i64 0) := (hb4.cell (by simp; omega)).trans (by go_simp)
  have hc4 : w4.cell? ⟨w2.heap.size, 1, none⟩ = some (.int .i64 1) := (hb4.cell (by simp; omega)).trans (by go_simp)
  have HB4 : Hid (Below w.heap.size w w4) := (HB3.out.setCell (by simp; omega) _).trans (hb4.mono (by omega))
  have HS4 : Hid (Sto w4 g3 1 (one true 2 6)) := hS4
  have hlt4 : w1.heap.size < w4.heap.size := by omega
  have hlu4 : w2.heap.size < w4.heap.size := by omega
  clear hS4 hb4 HS3 hp3 hf3 ha3 hc3 HB3
  go_wp2_with fail
  refine (find_one g3 1 2 6 _ ((HS4.out.setOther (by simp; omega) _).alloc _) (by omega)).mono ?_
  rintro e w5 ⟨ka, kc, rfl, hb5⟩
  have hs5 := hb5.size
  simp only [World.size_alloc, World.size_setCell] at hs5 hb5
  have hp5 : w5.cell? ⟨w1.heap.size, 0, none⟩ = some (.slice (some ⟨g3, 0, none⟩) 1 1) := (hb5.cell (by simp; omega)).trans (by go_simp)
  have ha5 : w5.cell? ⟨w2.heap.size, 0, none⟩ = some (.int .i64 0) := (hb5.cell (by simp; omega)).trans (by go_simp)
  have hc5 : w5.cell? ⟨w2.heap.size, 1, none⟩ = some (.int .i64 1) := (hb5.cell (by simp; omega)).trans (by go_simp)
  have hd5 : w5.cell? ⟨w4.heap.size, 0, none⟩ = some (.int .i64 0) := (hb5.cell (by simp)).trans (by go_simp)
  have he5 : w5.cell? ⟨w4.heap.size, 1, none⟩ = some (.int .i64 2) := (hb5.cell (by simp)).trans (by go_simp)
  have HB5 : Hid (Below w.heap.size w w5) := ((HB4.out.setCell (by simp; omega) _).alloc (by simp; omega) _).trans (hb5.mono (by omega))
  have HS5 : Hid (Sto w5 g3 1 (one true 2 6)) := ((HS4.out.setOther (by simp; omega) _).alloc _).below hb5 (by omega)
  have hlt5 : w1.heap.size < w5.heap.size := by omega
  have hlu5 : w2.heap.size < w5.heap.size := by omega
  have hlv5 : w4.heap.size < w5.heap.size := by omega
  clear hb5 HS4 hp4 hf4 ha4 hc4 HB4
  go_wp2_with fail
  refine (gone_one g3 1 2 6 1 _ (HS5.out.alloc _) (by omega) (by omega)).mono ?_
  rintro e w6 ⟨rfl, hb6⟩
  simp only [World.size_alloc] at hb6
  go_wp2
  go_ret
  exact ⟨rfl, (HB5.out.alloc (by omega) _).trans (hb6.mono (by omega))⟩
end Go.Proofs.Ytjlapfgghljidaa.Room
