/-
  slices.Clone over cells; a graph that grows.
-/
import Derived.Test.YthlpkdmmkfhleadJCh
import Derived.WalkSpells
import Derived.BigQuiet
namespace Go.Proofs.Ythlpkdmmkfhlead
open Go.RowKit Go.ChangeShapes Go.WideShapes

/-- A row of cells above B, and the rows of their kids above B'. -/
def OwnC2 (B B' : Nat) (L : List Cl) (K : Nat → Value) (v : Value) (w : World) : Prop :=
  w.ownsRow B 56 2 v L.length (ccells L K) ∧ ∀ i, i < L.length → w.ownsRow B' 3 1 (K i) (cl L i).ks.length ((cl L i).ks.map (Value.int .i64))

theorem OwnC2.one {B B' : Nat} {L : List Cl} {K : Nat → Value} {v : Value} {w : World} (h : OwnC2 B B' L K v w) (hB : B' ≤ B) : OwnC B' L K v w := ⟨ownsRow_baseL h.1 hB, h.2⟩

theorem OwnC2.step {w5 w3 : World} {B B' : Nat} {L : List Cl} {K : Nat → Value} {v v1 v2 : Value} {s : Cl} {o3 : Obj} (I : OwnC2 B B' L K v w5) (own1 : w5.ownsRow B' 3 1 v1 s.ks.length (s.ks.map (Value.int .i64)))
    (h3 : (w5.alloc o3).grownBy w3 v.ownBlock) (own3 : w3.ownsRow B 56 2 v2 (L.length + 1) (ccells L K ++ ccell s v1)) :
    OwnC2 B B' (L ++ [s]) (fun i => if i = L.length then v1 else K i) v2 w3 := by
  obtain ⟨hm, hk⟩ := I
  have e3 : ∀ k, k < w5.heap.size → v.ownBlock ≠ some k → w3.heap[k]? = w5.heap[k]? := fun k hk hk2 =>
    (h3.block k (by simp; omega) (fun e => hk2 e.symm)).trans (Below.heap_alloc _ _ _ hk)
  refine ⟨?_, fun i hi => ?_⟩
  · rw [← ccells_snoc, List.length_append, List.length_singleton]
    exact own3
  · rw [List.length_append, List.length_singleton] at hi
    by_cases ei : i = L.length
    · subst ei
      simp only [if_true]
      rw [cl_last]
      exact owns_block own1 (fun k hk => e3 k (own1.lt k hk).2 (owns_apart own1 hm (by decide) k hk))
    · simp only [if_neg ei]
      have hi' : i < L.length := by omega
      rw [cl_left hi']
      have hkr := hk i hi'
      exact owns_block hkr (fun k hk => e3 k (hkr.lt k hk).2 (owns_apart hkr hm (by decide) k hk))

theorem OwnC2.kept {B B' : Nat} {L : List Cl} {K : Nat → Value} {v : Value} {w w' : World} (h : OwnC2 B B' L K v w) (e : ∀ j, j < w.heap.size → (v.ownBlock = some j ∨ ∃ i, i < L.length ∧ (K i).ownBlock = some j) → w'.heap[j]? = w.heap[j]?) : OwnC2 B B' L K v w' :=
  ⟨owns_block h.1 (fun k hk => e k (h.1.lt k hk).2 (Or.inl hk)), fun i hi => owns_block (h.2 i hi) (fun k hk => e k ((h.2 i hi).lt k hk).2 (Or.inr ⟨i, hi, hk⟩))⟩
theorem OwnC2.below {B B' : Nat} {L : List Cl} {K : Nat → Value} {v : Value} {w w' : World} (h : OwnC2 B B' L K v w) (hb : Below w.heap.size w w') : OwnC2 B B' L K v w' := h.kept (fun j hj _ => hb.block j hj)

theorem OwnC.kid_one {B : Nat} {L : List Cl} {K : Nat → Value} {v : Value} {w : World} (h : OwnC B L K v w) : ∀ u ∈ ccells L K, u.oneCell' = true := fun u hu => by
  unfold ccells at hu
  obtain ⟨i, hi, hu⟩ := List.mem_flatMap.1 hu
  have hi := List.mem_range.1 hi
  obtain ⟨sa, sc, e, _⟩ := ints_own (h.2 i hi)
  rw [e] at hu
  exact one2 u hu

theorem row_form {w : World} {B t n : Nat} {size : Nat} {v : Value} {xs : List Value} (h : w.ownsRow B t size v n xs) : (v = .slice none 0 0 ∧ n = 0) ∨ ∃ g cap, v = .slice (some ⟨g, 0, none⟩) n cap := by
  rcases h.2 with ⟨e, e0⟩ | ⟨g, cap, cur, e, _⟩
  · exact Or.inl ⟨e, e0⟩
  · exact Or.inr ⟨g, cap, e⟩

set_option maxRecDepth 100000 in
set_option maxHeartbeats 1000000 in
theorem cloneCells_any (B : Nat) (L : List Cl) (K : Nat → Value) (v : Value) (w : World) (hL : L.length ≤ 1000) (h : OwnC B L K v w) :
    Calls Try.prog 24 #[v] w fun e w' => ∃ v2, e = .returned v2 ∧ Below w.heap.size w w' ∧ OwnC2 w.heap.size B L K v2 w' := by
  obtain ⟨i0, hi0, hz0, hz1, hz2⟩ := info_parts infoCell
  rcases row_form h.1 with ⟨rfl, e0⟩ | ⟨g, cap, rfl⟩
  · have hnil := fun (W : World) n c n' c' => Lib.run_eql_slice_nil (P := Try.prog) W 45 56 none n c n' c' Try.underlying45
    have FIN : Hid (OwnC2 w.heap.size B L K (.slice none 0 0) w) := by
      have hl : L = [] := List.eq_nil_of_length_eq_zero e0
      subst hl
      exact ⟨World.ownsRow_nil _ _ _ _, fun i hi => by cases hi⟩
    clear h
    go_enter Try.func24, Try.ntmps24
    go_wp2_with fail
    go_ret
    exact ⟨_, rfl, Below.refl _ _, FIN.out⟩
  · have hnil := fun (W : World) n c n' c' => Lib.run_eql_slice_nil (P := Try.prog) W 45 56 (some ⟨g, 0, none⟩) n c n' c' Try.underlying45
    have NEW : Hid (∀ o1, ∀ j u, (ccells L K)[j]? = some u → (w.alloc o1).cell? ((⟨g, 0, none⟩ : Addr).add j) = some u) := fun o1 j u hj => by
      have h1 := h.1.cells (g := g) rfl j u hj
      rw [add_plain] at h1 ⊢
      exact keepC h1 (one_belowS w o1)
    have ONE : Hid (∀ u ∈ ccells L K, u.oneCell' = true) := h.kid_one
    have LEN : Hid ((ccells L K).length = L.length * 2) := ccells_len L K L.length
    have KID : Hid (∀ W : World, (∀ j, j < w.heap.size → W.heap[j]? = w.heap[j]?) → ∀ i, i < L.length → W.ownsRow B 3 1 (K i) (cl L i).ks.length ((cl L i).ks.map (Value.int .i64))) := fun W hW i hi => owns_block (h.2 i hi) (fun k hk => hW k ((h.2 i hi).lt k hk).2)
    have MK : Hid (∀ (v2 : Value) (W : World), W.ownsRow w.heap.size 56 2 v2 L.length (ccells L K) → (∀ j, j < w.heap.size → W.heap[j]? = w.heap[j]?) → OwnC2 w.heap.size B L K v2 W) := fun v2 W h1 h2 => ⟨h1, KID.out W h2⟩
    clear h
    generalize ccells L K = cs at *
    obtain ⟨n, hn⟩ : ∃ z, L.length = z := ⟨_, rfl⟩
    rw [hn] at hL LEN MK ⊢
    clear hn
    go_enter Try.func24, Try.ntmps24
    go_wp2_with (at_builtin; refine wpList_append_own _ rfl _ _ 45 rfl w.heap.size 56 i0 (.agg #[.int .i64 0, .slice none 0 0]) 2 32 Try.underlying45 hi0 hz0 hz1 hz2 rfl (by decide) (.slice (some ⟨w.heap.size, 0, none⟩) 0 0) 0 [] rfl ?c0 ⟨g, 0, none⟩ n cap cs rfl LEN.out (NEW.out _) ONE.out ?c3 ?c4 ?c5 ?_)
    case c0 => exact ⟨by simp, Or.inr ⟨w.heap.size, 0, #[], rfl, Nat.le_refl _, heap_alloc_new w _, by omega, by unfold maxLen; omega, by simp, by simp⟩⟩
    case c3 => unfold maxLen; omega
    case c4 => omega
    case c5 => simp
    intro v2 w2 own2 grow2 _
    have FIN : Hid (OwnC2 w.heap.size B L K v2 w2) := MK.out v2 w2 own2 (fun j hj => (grow2.block j (by simp; omega) (by intro e; have e2 : j = w.heap.size := Option.some.inj e; omega)).trans (Below.heap_alloc _ _ _ hj))
    have HB : Hid (Below w.heap.size w w2) := (one_belowS w _).grown grow2 (by simp) (fun k hk => by cases hk; exact Nat.le_refl _)
    obtain hf := row_form own2
    clear own2 grow2
    go_wp2_with fail
    go_ret
    exact ⟨_, rfl, HB.out, FIN.out⟩
end Go.Proofs.Ythlpkdmmkfhlead
