/-
  What CopyEach makes: a row of its own, each element's memory behind it, one after the other.
-/
import Derived.Test.YtgjfmepbphfjoaaUBoOwBk
namespace Go.Proofs.Ytgjfmepbphfjoaa
open Go.RowKit
set_option linter.unusedVariables false

theorem alloc_fz (W : World) (xs : Array Value) (t o : Nat) : (W.alloc (.cells xs t)).frozen? ⟨W.heap.size, o, none⟩ = false := by
  have e := heap_alloc_new W (.cells xs t)
  simp only [World.frozen?, e]
  simp
theorem alloc_fz1 (W : World) (xs : Array Value) (t o : Nat) (o2 : Obj) : ((W.alloc (.cells xs t)).alloc o2).frozen? ⟨W.heap.size, o, none⟩ = false := ((one_belowS _ _).frozen (by simp)).trans (alloc_fz W xs t o)
theorem alloc_fz2 (W : World) (xs : Array Value) (t o : Nat) (o1 : Obj) : ((W.alloc o1).alloc (.cells xs t)).frozen? ⟨W.heap.size + 1, o, none⟩ = false := by
  have := alloc_fz (W.alloc o1) xs t o
  rwa [World.size_alloc] at this
/-- Row g has n elements of s cells, the first k of them there: element i is v i, all that it leads to lies in the blocks from lo i to hi i. -/
def EachI {E : Type} (cv : E → Nat → Value) (t s n : Nat) (R : Nat → E → Nat → Nat → World → Prop) (g k : Nat) (w : World) : Prop :=
  ∃ (v : Nat → E) (lo hi : Nat → Nat) (F : Nat → Value), w.rowIs g t (n * s) F ∧ ∀ i, i < k → (∀ j, j < s → F (i * s + j) = cv (v i) j) ∧ g < lo i ∧ lo i ≤ hi i ∧ hi i ≤ w.heap.size ∧ (∀ i', i' < i → hi i' ≤ lo i) ∧ St (fun b => b < lo i ∨ hi i ≤ b) (R i (v i) (lo i) (hi i)) w
theorem EachI.zero {E : Type} {cv : E → Nat → Value} (w : World) (zs : Array Value) (t s n : Nat) (R : Nat → E → Nat → Nat → World → Prop) (x0 : E) : EachI cv t s n R w.heap.size 0 (w.alloc (.cells (madeCells zs (n * s)) t)) := by
  have h := World.rowIs_alloc w (madeCells zs (n * s)) t (fun j => (madeCells zs (n * s))[j]!) (fun i hi => by simp [hi])
  rw [size_madeCells] at h
  exact ⟨fun _ => x0, fun _ => 0, fun _ => 0, _, h, fun i hi => absurd hi (Nat.not_lt_zero _)⟩
theorem EachI.facts {E : Type} {cv : E → Nat → Value} {t s n g k : Nat} {R : Nat → E → Nat → Nat → World → Prop} {w : World} (h : EachI cv t s n R g k w) : g < w.heap.size ∧ (∀ o, w.frozen? ⟨g, o, none⟩ = false) ∧ ∃ F : Nat → Value, ∀ j, j < n * s → w.cell? ⟨g, j, none⟩ = some (F j) := by
  obtain ⟨_, _, _, F, hF, _⟩ := h
  exact ⟨hF.lt, hF.frozen, F, fun j hj => hF.cell hj⟩
theorem EachI.step {E : Type} {cv : E → Nat → Value} {t s n g k lo hi : Nat} {R : Nat → E → Nat → Nat → World → Prop} {wr w3 w' : World} {x : E} (h : EachI cv t s n R g k wr) (hk : k < n) (b3 : Below wr.heap.size wr w3) (hlo : wr.heap.size ≤ lo) (hhi : lo ≤ hi) (h3 : St (fun b => b < lo ∨ hi ≤ b) (R k x lo hi) w3) (hsz : hi = w3.heap.size) (ho : OffX (fun b => b = g) w3 w')
    (hF : ∀ F, w3.rowIs g t (n * s) F → ∃ F', w'.rowIs g t (n * s) F' ∧ (∀ j, j < s → F' (k * s + j) = cv x j) ∧ ∀ i, i < k → ∀ j, j < s → F' (i * s + j) = F (i * s + j)) : EachI cv t s n R g (k + 1) w' := by
  obtain ⟨v, l, u, F, hr, hi'⟩ := h
  have hg := hr.lt
  obtain ⟨F', hr', f1, f2⟩ := hF F (hr.of_block (b3.block g hg))
  have s3 := b3.size
  have s4 := ho.size
  refine ⟨fun i => if i = k then x else v i, fun i => if i = k then lo else l i, fun i => if i = k then hi else u i, F', hr', fun i hik => ?_⟩
  dsimp only
  by_cases e : i = k
  · subst e
    rw [if_pos rfl, if_pos rfl, if_pos rfl]
    refine ⟨f1, by omega, hhi, by omega, fun i' hi2 => ?_, h3.off (ho.mono (fun b hb => Or.inl (by rw [hb]; omega)))⟩
    rw [if_neg (by omega)]
    have := (hi' i' hi2).2.2.2.1
    omega
  · rw [if_neg e, if_neg e, if_neg e]
    obtain ⟨g1, g2, g3, g4, g5, g6⟩ := hi' i (by omega)
    refine ⟨fun j hj => (f2 i (by omega) j hj).trans (g1 j hj), g2, g3, by omega, fun i' hi2 => ?_, (g6.off (OffX.of_below b3)).off (ho.mono (fun b hb => Or.inl (by rw [hb]; exact g2)))⟩
    rw [if_neg (by omega)]
    exact g5 i' hi2
theorem EachI.off {E : Type} {cv : E → Nat → Value} {t s n g k : Nat} {R : Nat → E → Nat → Nat → World → Prop} {w w' : World} (h : EachI cv t s n R g k w) (ho : OffX (fun b => b < g ∨ w.heap.size ≤ b) w w') : EachI cv t s n R g k w' := by
  obtain ⟨v, l, u, F, hr, hi'⟩ := h
  have hg := hr.lt
  refine ⟨v, l, u, F, hr.of_block (ho.block g hr.lt (by show ¬ (g < g ∨ w.heap.size ≤ g); omega)), fun i hi => ?_⟩
  obtain ⟨g1, g2, g3, g4, g5, g6⟩ := hi' i hi
  exact ⟨g1, g2, g3, Nat.le_trans g4 ho.size, g5, g6.off (ho.mono (fun b hb => by have h3 : b < g ∨ w.heap.size ≤ b := hb; show b < l i ∨ u i ≤ b; omega))⟩
theorem EachI.st {E : Type} {cv : E → Nat → Value} {t s n g k B H : Nat} {R : Nat → E → Nat → Nat → World → Prop} {w : World} (h : EachI cv t s n R g k w) (hB : B ≤ g) (hH : w.heap.size ≤ H) : St (fun b => b < B ∨ H ≤ b) (EachI cv t s n R g k) w := fun w' ho => h.off (ho.mono (fun b hb => by have h3 : b < B ∨ H ≤ b := hb; show b < g ∨ w.heap.size ≤ b; omega))
/-- A store ahead of the row. -/
theorem EachI.set {E : Type} {cv : E → Nat → Value} {t s n g k b o : Nat} {R : Nat → E → Nat → Nat → World → Prop} {w : World} (h : EachI cv t s n R g k w) (hb : b < g) (u : Value) : EachI cv t s n R g k (w.setCell ⟨b, o, none⟩ u) := h.off (OffX.set w u (Or.inl hb))
end Go.Proofs.Ytgjfmepbphfjoaa
