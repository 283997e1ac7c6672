/-
  The contract of slices.Clone over tests, and of the query with one test more.
-/
import Derived.Test.YtcohimljgjlkdabVh
import Derived.WalkSpells
namespace Go.Proofs.Ytcohimljgjlkdab
open Go.RowKit

/-- The cells of tests. -/
def tcells (q : List Tst) : List Value := q.flatMap fun te => [.int .i64 te.t, .int .i64 te.m, .bool te.near]

theorem tcells_length : ∀ q : List Tst, (tcells q).length = q.length * 3
  | [] => rfl
  | te :: r => by
    have := tcells_length r
    simp only [tcells, List.flatMap_cons, List.length_append, List.length_cons, List.length_nil] at *
    omega

theorem tcells_get : ∀ (q : List Tst) (i : Nat), i < q.length → (tcells q)[i * 3]? = some (.int .i64 (tst q i).t) ∧ (tcells q)[i * 3 + 1]? = some (.int .i64 (tst q i).m) ∧ (tcells q)[i * 3 + 2]? = some (.bool (tst q i).near)
  | te :: r, 0, _ => ⟨rfl, rfl, rfl⟩
  | te :: r, i + 1, h => by
    obtain ⟨h1, h2, h3⟩ := tcells_get r i (by simpa using h)
    have e : ∀ j, (tcells (te :: r))[j + 3]? = (tcells r)[j]? := fun j => by
      show ([Value.int .i64 te.t, .int .i64 te.m, .bool te.near] ++ tcells r)[j + 3]? = _
      rw [List.getElem?_append_right (by simp)]
      simp
    have et : tst (te :: r) (i + 1) = tst r i := rfl
    rw [et, show (i + 1) * 3 = i * 3 + 3 by omega, show i * 3 + 3 + 1 = (i * 3 + 1) + 3 by omega, show i * 3 + 3 + 2 = (i * 3 + 2) + 3 by omega, e, e, e]
    exact ⟨h1, h2, h3⟩

theorem tcells_one {q : List Tst} : ∀ u ∈ tcells q, u.oneCell' = true := fun u hu => by
  obtain ⟨te, _, h⟩ := List.mem_flatMap.1 hu
  simp at h
  rcases h with rfl | rfl | rfl <;> rfl

theorem tcells_mod {q : List Tst} {j : Nat} {u : Value} (h : (tcells q)[j]? = some u) : ∃ i, i < q.length ∧ (j = i * 3 ∧ u = .int .i64 (tst q i).t ∨ j = i * 3 + 1 ∧ u = .int .i64 (tst q i).m ∨ j = i * 3 + 2 ∧ u = .bool (tst q i).near) := by
  have hl := (List.getElem?_eq_some_iff.1 h).1
  rw [tcells_length] at hl
  have hi : j / 3 < q.length := by omega
  obtain ⟨h1, h2, h3⟩ := tcells_get q (j / 3) hi
  refine ⟨j / 3, hi, ?_⟩
  have hm : j % 3 = 0 ∨ j % 3 = 1 ∨ j % 3 = 2 := by omega
  rcases hm with hm | hm | hm
  · have e : j = j / 3 * 3 := by omega
    rw [← e, h] at h1
    exact Or.inl ⟨e, by cases h1; rfl⟩
  · have e : j = j / 3 * 3 + 1 := by omega
    rw [← e, h] at h2
    exact Or.inr (Or.inl ⟨e, by cases h2; rfl⟩)
  · have e : j = j / 3 * 3 + 2 := by omega
    rw [← e, h] at h3
    exact Or.inr (Or.inr ⟨e, by cases h3; rfl⟩)

theorem tests_cells {w : World} {b o : Nat} {q : List Tst} (h : TestsAt w (some ⟨b, o, none⟩) q) : ∀ j u, (tcells q)[j]? = some u → w.cell? ((⟨b, o, none⟩ : Addr).add j) = some u := fun j u hj => by
  obtain ⟨i, hi, hc⟩ := tcells_mod hj
  obtain ⟨b', o', e, h1, h2, h3⟩ := h i hi
  cases e
  rw [Addr.add_lit]
  rcases hc with ⟨rfl, rfl⟩ | ⟨rfl, rfl⟩ | ⟨rfl, rfl⟩
  · exact h1
  · exact h2
  · exact h3

theorem tests_own {w : World} {B g n cap : Nat} {q : List Tst} (h : w.ownsRow B 53 3 (.slice (some ⟨g, 0, none⟩) n cap) n (tcells q)) : TestsAt w (some ⟨g, 0, none⟩) q := fun i hi => by
  have hc := h.cells (g := g) rfl
  obtain ⟨h1, h2, h3⟩ := tcells_get q i hi
  have e1 := hc _ _ h1
  have e2 := hc _ _ h2
  have e3 := hc _ _ h3
  rw [Addr.add_lit] at e1 e2 e3
  exact ⟨g, 0, rfl, e1, e2, e3⟩

theorem infoTest : (Try.prog.info? 53).map (fun i => (i.zero, i.size, i.bytes)) = some (some (.agg #[.int .i64 0, .int .i64 0, .bool false]), 3, 24) := by kernel_rfl

set_option maxHeartbeats 1000000 in
theorem cloneTests_any (b o qc : Nat) (q : List Tst) (w : World) (hq : 1 ≤ q.length ∧ q.length ≤ 6) (hQ : TestsAt w (some ⟨b, o, none⟩) q) :
    Calls Try.prog 26 #[.slice (some ⟨b, o, none⟩) q.length qc] w fun e w' => ∃ g cap, e = .returned (.slice (some ⟨g, 0, none⟩) q.length cap) ∧ Below w.heap.size w w' ∧ w'.ownsRow w.heap.size 53 3 (.slice (some ⟨g, 0, none⟩) q.length cap) q.length (tcells q) := by
  obtain ⟨i0, hi0, hz0, hz1, hz2⟩ := info_parts infoTest
  have hnil := fun (W : World) n c n' c' => Lib.run_eql_slice_nil (P := Try.prog) W 46 53 (some ⟨b, o, none⟩) n c n' c' Try.underlying46
  have NEW : Hid (∀ o1, ∀ j u, (tcells q)[j]? = some u → (w.alloc o1).cell? ((⟨b, o, none⟩ : Addr).add j) = some u) := fun o1 => tests_cells (hQ.below ((Below.refl _ _).alloc (Nat.le_refl _) o1))
  have ONE : Hid (∀ u ∈ tcells q, u.oneCell' = true) := tcells_one
  have LEN : Hid ((tcells q).length = q.length * 3) := tcells_length q
  clear hQ
  generalize tcells q = cs at *
  generalize q.length = L at *
  go_enter Try.func26, Try.ntmps26
  go_wp2_with (at_builtin; refine wpList_append_own _ rfl _ _ 46 rfl w.heap.size 53 i0 (.agg #[.int .i64 0, .int .i64 0, .bool false]) 3 24 Try.underlying46 hi0 hz0 hz1 hz2 rfl (by decide) (.slice (some ⟨w.heap.size, 0, none⟩) 0 0) 0 [] rfl ?c0 ⟨b, o, none⟩ L qc cs rfl LEN.out (NEW.out _) ONE.out ?c3 ?c4 ?c5 ?_)
  case c0 => exact ⟨by simp, Or.inr ⟨w.heap.size, 0, #[], rfl, Nat.le_refl _, heap_alloc_new w _, by omega, by unfold maxLen; omega, by simp, by simp⟩⟩
  case c3 => unfold maxLen; omega
  case c4 => omega
  case c5 => simp
  intro v' w' hown hgrow _
  obtain ⟨g', cap', rfl⟩ : ∃ g' cap', v' = .slice (some ⟨g', 0, none⟩) L cap' := by
    rcases hown.2 with ⟨_, h⟩ | ⟨g', cap', cur, h, _⟩
    · omega
    · exact ⟨g', cap', h⟩
  have HO : Hid (w'.ownsRow w.heap.size 53 3 (.slice (some ⟨g', 0, none⟩) L cap') L cs) := hown
  have HB : Hid (Below w.heap.size w w') := ((Below.refl _ _).alloc (Nat.le_refl _) _).grown hgrow (by simp) (fun k hk => by simp [Value.ownBlock] at hk; omega)
  clear hown hgrow
  go_wp2
  go_ret
  exact ⟨g', cap', rfl, HB.out, HO.out⟩
end Go.Proofs.Ytcohimljgjlkdab
