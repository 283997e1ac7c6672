/-
  The contract of slices.Clone over tests, and of the query with one test more.
-/
import Derived.Test.YtjlapfgghljidabUWoVhVla
import Derived.WalkSpells
namespace Go.Proofs.Ytjlapfgghljidab
open Go.RowKit

/-- The cells of tests. -/
def tcells (q : List Tst) : List Value := q.flatMap fun te => [.int .i64 te.t, .int .i64 te.m, .bool te.near]

theorem tcells_length : ∀ q : List Tst, (tcells q).length = q.length * 3
  | [] => rfl
  | te :: r => by
    have := tcells_length r
    simp only [tcells, List.flatMap_cons, List.length_append, List.length_cons, List.length_nil] at *
    omega

theorem tcells_get : ∀ (q : List Tst) (i : Nat), i < q.length → (tcells q)[i * 3]? = some (.int .i64 (tst q i).t) ∧ (tcells q)[i * 3 + 1]? = some (.int .i64 (tst q i).m) ∧ (tcells q)[i * 3 + 2]? = some (.bool (tst q i).near)
  | te :: r, 0, _ => ⟨rfl, rfl, rfl⟩
  | te :: r, i + 1, h => by
    obtain ⟨h1, h2, h3⟩ := tcells_get r i (by simpa using h)
    have e : ∀ j, (tcells (te :: r))[j + 3]? = (tcells r)[j]? := fun j => by
      show ([Value.int .i64 te.t, .int .i64 te.m, .bool te.near] ++ tcells r)[j + 3]? = _
      rw [List.getElem?_append_right (by simp)]
      simp
    have et : tst (te :: r) (i + 1) = tst r i := rfl
    rw [et, show (i + 1) * 3 = i * 3 + 3 by omega, show i * 3 + 3 + 1 = (i * 3 + 1) + 3 by omega, show i * 3 + 3 + 2 = (i * 3 + 2) + 3 by omega, e, e, e]
    exact ⟨h1, h2, h3⟩

theorem tcells_one {q : List Tst} : ∀ u ∈ tcells q, u.oneCell' = true := fun u hu => by
  obtain ⟨te, _, h⟩ := List.mem_flatMap.1 hu
  simp at h
  rcases h with rfl | rfl | rfl <;> rfl

theorem tcells_mod {q : List Tst} {j : Nat} {u : Value} (h : (tcells q)[j]? = some u) : ∃ i, i < q.length ∧ (j = i * 3 ∧ u = .int .i64 (tst q i).t ∨ j = i * 3 + 1 ∧ u = .int .i64 (tst q i).m ∨ j = i * 3 + 2 ∧ u = .bool (tst q i).near) := by
  have hl := (List.getElem?_eq_some_iff.1 h).1
  rw [tcells_length] at hl
  have hi : j / 3 < q.length := by omega
  obtain ⟨h1, h2, h3⟩ := tcells_get q (j / 3) hi
  refine ⟨j / 3, hi, ?_⟩
  have hm : j % 3 = 0 ∨ j % 3 = 1 ∨ j % 3 = 2 := by omega
  rcases hm with hm | hm | hm
  · have e : j = j / 3 * 3 := by omega
    rw [← e, h] at h1
    exact Or.inl ⟨e, by cases h1; rfl⟩
  · have e : j = j / 3 * 3 + 1 := by omega
    rw [← e, h] at h2
    exact Or.inr (Or.inl ⟨e, by cases h2; rfl⟩)
  · have e : j = j / 3 * 3 + 2 := by omega
    rw [← e, h] at h3
    exact Or.inr (Or.inr ⟨e, by cases h3; rfl⟩)

theorem tests_cells {w : World} {b o : Nat} {q : List Tst} (h : TestsAt w (some ⟨b, o, none⟩) q) : ∀ j u, (tcells q)[j]? = some u → w.cell? ((⟨b, o, none⟩ : Addr).add j) = some u := fun j u hj => by
  obtain ⟨i, hi, hc⟩ := tcells_mod hj
  obtain ⟨b', o', e, h1, h2, h3⟩ := h i hi
  cases e
  rw [Addr.add_lit]
  rcases hc with ⟨rfl, rfl⟩ | ⟨rfl, rfl⟩ | ⟨rfl, rfl⟩
  · exact h1
  · exact h2
  · exact h3

theorem tests_own {w : World} {B g n cap : Nat} {q : List Tst} (h : w.ownsRow B 45 3 (.slice (some ⟨g, 0, none⟩) n cap) n (tcells q)) : TestsAt w (some ⟨g, 0, none⟩) q := fun i hi => by
  have hc := h.cells (g := g) rfl
  obtain ⟨h1, h2, h3⟩ := tcells_get q i hi
  have e1 := hc _ _ h1
  have e2 := hc _ _ h2
  have e3 := hc _ _ h3
  rw [Addr.add_lit] at e1 e2 e3
  exact ⟨g, 0, rfl, e1, e2, e3⟩

theorem infoTest : (Try.prog.info? 45).map (fun i => (i.zero, i.size, i.bytes)) = some (some (.agg #[.int .i64 0, .int .i64 0, .bool false]), 3, 24) := by kernel_rfl

set_option maxHeartbeats 1000000 in
theorem cloneTests_any (b o qc : Nat) (q : List Tst) (w : World) (hq : 1 ≤ q.length ∧ q.length ≤ 6) (hQ : TestsAt w (some ⟨b, o, none⟩) q) :
    Calls Try.prog 21 #[.slice (some ⟨b, o, none⟩) q.length qc] w fun e w' => ∃ g cap, e = .returned (.slice (some ⟨g, 0, none⟩) q.length cap) ∧ Below w.heap.size w w' ∧ w'.ownsRow w.heap.size 45 3 (.slice (some ⟨g, 0, none⟩) q.length cap) q.length (tcells q) := by
  obtain ⟨i0, hi0, hz0, hz1, hz2⟩ := info_parts infoTest
  have hnil := fun (W : World) n c n' c' => Lib.run_eql_slice_nil (P := Try.prog) W 37 45 (some ⟨b, o, none⟩) n c n' c' Try.underlying37
  have NEW : Hid (∀ o1, ∀ j u, (tcells q)[j]? = some u → (w.alloc o1).cell? ((⟨b, o, none⟩ : Addr).add j) = some u) := fun o1 => tests_cells (hQ.below ((Below.refl _ _).alloc (Nat.le_refl _) o1))
  have ONE : Hid (∀ u ∈ tcells q, u.oneCell' = true) := tcells_one
  have LEN : Hid ((tcells q).length = q.length * 3) := tcells_length q
  clear hQ
  generalize tcells q = cs at *
  generalize q.length = L at *
  go_enter Try.func21, Try.ntmps21
  go_wp2_with (at_builtin; refine wpList_append_own _ rfl _ _ 37 rfl w.heap.size 45 i0 (.agg #[.int .i64 0, .int .i64 0, .bool false]) 3 24 Try.underlying37 hi0 hz0 hz1 hz2 rfl (by decide) (.slice (some ⟨w.heap.size, 0, none⟩) 0 0) 0 [] rfl ?c0 ⟨b, o, none⟩ L qc cs rfl LEN.out (NEW.out _) ONE.out ?c3 ?c4 ?c5 ?_)
  case c0 => exact ⟨by simp, Or.inr ⟨w.heap.size, 0, #[], rfl, Nat.le_refl _, heap_alloc_new w _, by omega, by unfold maxLen; omega, by simp, by simp⟩⟩
  case c3 => unfold maxLen; omega
  case c4 => omega
  case c5 => simp
  intro v' w' hown hgrow _
  obtain ⟨g', cap', rfl⟩ : ∃ g' cap', v' = .slice (some ⟨g', 0, none⟩) L cap' := by
    rcases hown.2 with ⟨_, h⟩ | ⟨g', cap', cur, h, _⟩
    · omega
    · exact ⟨g', cap', h⟩
  have HO : Hid (w'.ownsRow w.heap.size 45 3 (.slice (some ⟨g', 0, none⟩) L cap') L cs) := hown
  have HB : Hid (Below w.heap.size w w') := ((Below.refl _ _).alloc (Nat.le_refl _) _).grown hgrow (by simp) (fun k hk => by simp [Value.ownBlock] at hk; omega)
  clear hown hgrow
  go_wp2
  go_ret
  exact ⟨g', cap', rfl, HB.out, HO.out⟩
end Go.Proofs.Ytjlapfgghljidab

namespace Go.Proofs.Ytjlapfgghljidab
open Go.RowKit

theorem sift_yes {l : List Int} {f : Int → Bool} {j : Nat} (hj : j < l.length) (h : f (l.getD j 0) = true) : ((l.take j).filter f).length < (l.filter f).length ∧ (l.filter f).getD ((l.take j).filter f).length 0 = l.getD j 0 := by
  have e : l.filter f = (l.take j).filter f ++ (l.getD j 0 :: (l.drop (j + 1)).filter f) := by
    conv => lhs; rw [← List.take_append_drop j l, List.filter_append, drop_cons (d := 0) hj, List.filter_cons, if_pos h]
  constructor
  · have := congrArg List.length e
    simp only [List.length_append, List.length_cons] at this
    omega
  · rw [e]
    simp [List.getD]

theorem sift_no {l : List Int} {f : Int → Bool} {j : Nat} (hn : l.Nodup) (hj : j < l.length) (h : f (l.getD j 0) = false) : ¬ (((l.take j).filter f).length < (l.filter f).length ∧ (l.filter f).getD ((l.take j).filter f).length 0 = l.getD j 0) := by
  rintro ⟨h1, h2⟩
  have e : l.filter f = (l.take j).filter f ++ (l.drop (j + 1)).filter f := by
    conv => lhs; rw [← List.take_append_drop j l, List.filter_append, drop_cons (d := 0) hj, List.filter_cons, if_neg (by rw [h]; exact Bool.false_ne_true)]
  have h3 : (l.filter f).getD ((l.take j).filter f).length 0 ∈ (l.drop (j + 1)).filter f := by
    have hl := congrArg List.length e
    rw [List.length_append] at hl
    have hpos : 0 < ((l.drop (j + 1)).filter f).length := by omega
    rw [e]
    have : ((l.take j).filter f ++ (l.drop (j + 1)).filter f).getD ((l.take j).filter f).length 0 = ((l.drop (j + 1)).filter f).getD 0 0 := by
      simp only [List.getD]
      rw [List.getElem?_append_right (Nat.le_refl _), Nat.sub_self]
    rw [this, getD_elem _ 0 hpos]
    exact List.getElem_mem _
  rw [h2] at h3
  have h4 := (List.mem_filter.1 h3).1
  have h5 : (l.take j ++ (l.getD j 0 :: l.drop (j + 1))).Nodup := by rw [← drop_cons (d := 0) hj, List.take_append_drop]; exact hn
  exact (List.nodup_cons.1 (List.nodup_append.1 h5).2.1).1 h4

theorem testsE_last : ∀ (k : Nat) (q : List Tst) (te te' : Tst), 1 ≤ k + q.length → tOkB te = tOkB te' → testsE k (q ++ [te]) = testsE k (q ++ [te'])
  | k, [], te, te', hk, h => by
    simp only [List.length_nil, Nat.add_zero] at hk
    simp only [List.nil_append, testsE]
    rw [h, decide_eq_false (by omega)]
    rfl
  | k, x :: r, te, te', _, h => by
    simp only [List.cons_append, testsE]
    rw [testsE_last (k + 1) r te te' (by omega) h]

theorem qcheck_far {q : List Tst} {t : Tst} (hq : 1 ≤ q.length) (h : qcheckE (q ++ [t]) = 0) : qcheckE (q ++ [⟨t.t, t.m, false⟩]) = 0 := by
  unfold qcheckE at *
  rw [List.length_append] at *
  rw [testsE_last 0 q t ⟨t.t, t.m, false⟩ (by omega) rfl] at h
  exact h

theorem testsE_ok : ∀ (k : Nat) (q : List Tst) (te : Tst), testsE k (q ++ [te]) = 0 → tOkB te = true
  | k, [], te, h => by
    simp only [List.nil_append, testsE] at h
    cases hb : tOkB te with
    | true => rfl
    | false => rw [hb] at h; simp at h
  | k, x :: r, te, h => by
    simp only [List.cons_append, testsE] at h
    split at h
    · split at h
      · omega
      · exact testsE_ok (k + 1) r te h
    · omega

theorem qcheck_alone {q : List Tst} {t : Tst} (h : qcheckE (q ++ [t]) = 0) : qcheckE [⟨t.t, t.m, false⟩] = 0 := by
  unfold qcheckE at h
  split at h
  · have h1 := testsE_ok 0 q t h
    have h2 : tOkB ⟨t.t, t.m, false⟩ = true := h1
    unfold qcheckE
    rw [if_pos (decide_eq_true ⟨by simp, by simp⟩)]
    simp only [testsE, h2]
    simp
  · omega

theorem tcells_snoc (q : List Tst) (te : Tst) : tcells (q ++ [te]) = tcells q ++ [.int .i64 te.t, .int .i64 te.m, .bool te.near] := by
  unfold tcells
  rw [List.flatMap_append]
  rfl

/-- The last test's Near turned. -/
theorem tests_far {w : World} {g : Nat} {q : List Tst} {t m : Int} {n : Bool} (h : TestsAt w (some ⟨g, 0, none⟩) (q ++ [⟨t, m, n⟩])) : TestsAt (w.setCell ⟨g, q.length * 3 + 2, none⟩ (.bool false)) (some ⟨g, 0, none⟩) (q ++ [⟨t, m, false⟩]) := fun i hi => by
  obtain ⟨b, o, e, h1, h2, h3⟩ := h i (by simpa using hi)
  cases e
  rw [Nat.zero_add] at h1 h2 h3
  simp only [List.length_append, List.length_cons, List.length_nil] at hi
  refine ⟨g, 0, rfl, ?_⟩
  rw [Nat.zero_add]
  by_cases e : i = q.length
  · subst e
    have et : ∀ x : Tst, tst (q ++ [x]) q.length = x := fun x => by simp [tst, List.getD]
    rw [et] at h1 h2 h3
    rw [et]
    refine ⟨?_, ?_, World.cell?_setCell_same _ _ _ h3⟩
    · rw [World.cell?_setCell_other _ _ _ _ (by first | (simp; done) | (simp; omega))]; exact h1
    · rw [World.cell?_setCell_other _ _ _ _ (by first | (simp; done) | (simp; omega))]; exact h2
  · have et : ∀ x : Tst, tst (q ++ [x]) i = tst q i := fun x => by
      unfold tst
      simp only [List.getD]
      rw [List.getElem?_append_left (by omega)]
    rw [et] at h1 h2 h3
    rw [et]
    refine ⟨?_, ?_, ?_⟩
    · rw [World.cell?_setCell_other _ _ _ _ (by first | (simp; done) | (simp; omega))]; exact h1
    · rw [World.cell?_setCell_other _ _ _ _ (by first | (simp; done) | (simp; omega))]; exact h2
    · rw [World.cell?_setCell_other _ _ _ _ (by first | (simp; done) | (simp; omega))]; exact h3

theorem ints_set {w : World} {g o : Nat} {v : Value} {a : Option Addr} {ks : List Int} (h : IntsAt w a ks) (hne : ∀ x : Addr, a = some x → x.block ≠ g) : IntsAt (w.setCell ⟨g, o, none⟩ v) a ks := fun i hi => by
  obtain ⟨b, o', e, hc⟩ := h i hi
  refine ⟨b, o', e, ?_⟩
  rw [World.cell?_setCell_other _ _ _ _ (by intro e2; exact hne _ e (by have := congrArg Addr.block e2; simpa using this.symm))]
  exact hc

theorem found_alone {S : List Nd} {k : Nat} {q : List Tst} {t : Tst} : (foundF S k (q ++ [t])).any (fun x => !decide (x ∈ foundF S k [⟨t.t, t.m, false⟩])) = false := by
  rw [List.any_eq_false]
  intro x hx
  obtain ⟨h1, h2⟩ := List.mem_filter.1 hx
  have : x ∈ foundF S k [⟨t.t, t.m, false⟩] := List.mem_filter.2 ⟨h1, by rw [so_one]; exact (so_last h2 : testB t.t t.m (nd S x.toNat) = true)⟩
  simp [this]

theorem found_far {S : List Nd} (wf : WF S) {k : Nat} (hk : k < S.length) {q : List Tst} {t : Tst} : (foundF S k (q ++ [t])).any (fun x => !decide (x ∈ foundF S k (q ++ [⟨t.t, t.m, false⟩]))) = false := by
  rw [List.any_eq_false]
  intro x hx
  obtain ⟨h1, h2⟩ := List.mem_filter.1 hx
  obtain ⟨p, rfl, hp, _⟩ := mem_order wf hk (wf.deep_all hk) x (List.mem_of_mem_tail h1)
  have : (p : Int) ∈ foundF S k (q ++ [⟨t.t, t.m, false⟩]) := List.mem_filter.2 ⟨h1, so_far wf hp h2⟩
  simp [this]

theorem found_alone3 (S : List Nd) (k : Nat) (q : List Tst) (tt tm : Int) (tn : Bool) : (foundF S k (q ++ [⟨tt, tm, tn⟩])).any (fun x => !decide (x ∈ foundF S k [⟨tt, tm, false⟩])) = false := by
  have h := @found_alone S k q ⟨tt, tm, tn⟩
  dsimp only at h
  exact h

theorem found_far3 {S : List Nd} (wf : WF S) {k : Nat} (hk : k < S.length) (q : List Tst) (tt tm : Int) (tn : Bool) : (foundF S k (q ++ [⟨tt, tm, tn⟩])).any (fun x => !decide (x ∈ foundF S k (q ++ [⟨tt, tm, false⟩]))) = false := by
  have h := @found_far S wf k hk q ⟨tt, tm, tn⟩
  dsimp only at h
  exact h

theorem qcheck_alone3 {q : List Tst} {tt tm : Int} {tn : Bool} (h : qcheckE (q ++ [⟨tt, tm, tn⟩]) = 0) : qcheckE [⟨tt, tm, false⟩] = 0 := by
  have h1 := @qcheck_alone q ⟨tt, tm, tn⟩ h
  dsimp only at h1
  exact h1

theorem qcheck_far3 {q : List Tst} {tt tm : Int} {tn : Bool} (hq : 1 ≤ q.length) (h : qcheckE (q ++ [⟨tt, tm, tn⟩]) = 0) : qcheckE (q ++ [⟨tt, tm, false⟩]) = 0 := by
  have h1 := @qcheck_far q ⟨tt, tm, tn⟩ hq h
  dsimp only at h1
  exact h1

set_option maxHeartbeats 400000 in
theorem notIn1_any (x : Int) (b : Nat) (sa : Option Addr) (sc : Nat) (ks : List Int) (w : World) (hl : ks.length ≤ 9223372036854775807) (hc : w.cell? ⟨b, 0, none⟩ = some (.slice sa ks.length sc)) (hk : IntsAt w sa ks) :
    Calls Try.prog 23 #[.int .i64 x, .pointer (some ⟨b, 0, none⟩)] w fun e w' => e = .returned (.bool (!decide (x ∈ ks))) ∧ Below w.heap.size w w' := by
  have d1 := contains_any sa sc ks x w hl hk
  generalize decide (x ∈ ks) = r at *
  clear hk
  generalize ks.length = L at *
  go_enter Try.func23, Try.ntmps23
  go_wp2_with (go_at_call 11; refine d1.mono ?_; rintro e w' ⟨rfl, hw'⟩; have hw2 := hw'.symm; clear hw'; subst hw2)
  go_ret
  exact ⟨rfl, Below.refl _ _⟩

set_option maxHeartbeats 400000 in
theorem notIn2_any (x : Int) (b : Nat) (sa : Option Addr) (sc : Nat) (ks : List Int) (w : World) (hl : ks.length ≤ 9223372036854775807) (hc : w.cell? ⟨b, 0, none⟩ = some (.slice sa ks.length sc)) (hk : IntsAt w sa ks) :
    Calls Try.prog 24 #[.int .i64 x, .pointer (some ⟨b, 0, none⟩)] w fun e w' => e = .returned (.bool (!decide (x ∈ ks))) ∧ Below w.heap.size w w' := by
  have d1 := contains_any sa sc ks x w hl hk
  generalize decide (x ∈ ks) = r at *
  clear hk
  generalize ks.length = L at *
  go_enter Try.func24, Try.ntmps24
  go_wp2_with (go_at_call 11; refine d1.mono ?_; rintro e w' ⟨rfl, hw'⟩; have hw2 := hw'.symm; clear hw'; subst hw2)
  go_ret
  exact ⟨rfl, Below.refl _ _⟩

theorem allIn1_any (b : Nat) (sa ma : Option Addr) (sc mc : Nat) (ks ms : List Int) (w : World) (hl : ks.length ≤ 9223372036854775807) (hm : ms.length ≤ 9223372036854775807) (hc : w.cell? ⟨b, 0, none⟩ = some (.slice sa ks.length sc)) (hk : IntsAt w sa ks) (hms : IntsAt w ma ms) :
    Calls Try.prog 22 #[.slice ma ms.length mc, .func (.func 23) #[] #[.pointer (some ⟨b, 0, none⟩)]] w fun e w' => e = .returned (.bool (ms.any fun x => !decide (x ∈ ks))) ∧ Below w.heap.size w w' :=
  containsFunc_any 23 #[.pointer (some ⟨b, 0, none⟩)] (fun x => !decide (x ∈ ks)) ma mc ms w hm hms (enters_of Try.func23 (by kernel_rfl) rfl) (fun x w1 hb => notIn1_any x b sa sc ks w1 hl ((hb.cell (World.block_lt_of_cell? _ _ hc)).trans hc) (hk.below hb))

theorem allIn2_any (b : Nat) (sa ma : Option Addr) (sc mc : Nat) (ks ms : List Int) (w : World) (hl : ks.length ≤ 9223372036854775807) (hm : ms.length ≤ 9223372036854775807) (hc : w.cell? ⟨b, 0, none⟩ = some (.slice sa ks.length sc)) (hk : IntsAt w sa ks) (hms : IntsAt w ma ms) :
    Calls Try.prog 22 #[.slice ma ms.length mc, .func (.func 24) #[] #[.pointer (some ⟨b, 0, none⟩)]] w fun e w' => e = .returned (.bool (ms.any fun x => !decide (x ∈ ks))) ∧ Below w.heap.size w w' :=
  containsFunc_any 24 #[.pointer (some ⟨b, 0, none⟩)] (fun x => !decide (x ∈ ks)) ma mc ms w hm hms (enters_of Try.func24 (by kernel_rfl) rfl) (fun x w1 hb => notIn2_any x b sa sc ks w1 hl ((hb.cell (World.block_lt_of_cell? _ _ hc)).trans hc) (hk.below hb))

set_option maxRecDepth 100000 in
set_option maxHeartbeats 1000000 in
theorem finds_err (G : SoughtOk) (sv hv qv tv : Value) (E : Int) (hE : E ≠ 0) (w : World) (s0 : Value) (p u t0 m0 : Int) (n0 : Bool) (hs : sv = .agg #[s0]) (hh : hv = .agg #[.int .i64 p, .int .i64 u]) (ht : tv = .agg #[.int .i64 t0, .int .i64 m0, .bool n0])
    (hF : ∀ W, Below w.heap.size w W → Calls Try.prog 14 #[sv, hv, qv] W fun e w' => e = .returned (.tuple #[.slice none 0 0, .int .i64 E]) ∧ Below W.heap.size W w')
    (hO : ∀ W, Below w.heap.size w W → Calls Try.prog 9 #[sv, hv] W fun e w' => ∃ v F, e = .returned (.tuple #[v, .int .i64 F]) ∧ Below W.heap.size W w') :
    Calls Try.prog 5 #[sv, hv, qv, tv] w fun e w' => e = .returned (.bool true) ∧ Below w.heap.size w w' := by
  subst hs hh ht
  have HF : Hid _ := hF
  have HO : Hid _ := hO
  have hz : (E == 0) = false := by simp [hE]
  clear hF hO
  go_enter Try.func5, Try.ntmps5
  go_wp2_with fail
  refine (HF.out _ (three_below _ _ _ _)).mono ?_
  rintro e w1 ⟨rfl, hb1⟩
  simp only [World.size_alloc] at hb1
  have l0 : w1.cell? ⟨w.heap.size, 0, none⟩ = some s0 := (hb1.cell (by simp; omega)).trans (by go_simp)
  have l1 : w1.cell? ⟨w.heap.size + 1, 0, none⟩ = some (.int .i64 p) := (hb1.cell (by simp)).trans (by go_simp)
  have l2 : w1.cell? ⟨w.heap.size + 1, 1, none⟩ = some (.int .i64 u) := (hb1.cell (by simp)).trans (by go_simp)
  have HW1 : Hid (Below w.heap.size w w1) := (three_below _ _ _ _).trans (hb1.mono (by omega))
  clear hb1
  go_wp2_with fail
  refine (HO.out _ HW1.out).mono ?_
  rintro e w2 ⟨v, F, rfl, hb2⟩
  have HW2 : Hid (Below w.heap.size w w2) := HW1.out.trans (hb2.mono HW1.out.size)
  clear hb2 l0 l1 l2
  go_wp2_with fail
  refine (G _).mono ?_
  rintro e w3 ⟨rfl, hb3⟩
  have HW3 : Hid (Below w.heap.size w w3) := HW2.out.trans (hb3.mono HW2.out.size)
  clear hb3
  go_wp2_with fail
  refine (G _).mono ?_
  rintro e w4 ⟨rfl, hb4⟩
  have HW4 : Hid (Below w.heap.size w w4) := HW3.out.trans (hb4.mono HW3.out.size)
  clear hb4
  go_wp2
  go_ret
  exact ⟨rfl, HW4.out⟩
end Go.Proofs.Ytjlapfgghljidab
