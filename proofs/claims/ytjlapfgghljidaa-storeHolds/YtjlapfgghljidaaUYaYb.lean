/-
  StoreHolds: the walk where nothing is made at first.
-/
import Derived.Test.YtjlapfgghljidaaUXeXf
import Derived.Test.YtjlapfgghljidaaUXgXh
import Derived.Test.YtjlapfgghljidaaUXaXd
namespace Go.Proofs.Ytjlapfgghljidaa
open Go.RowKit

set_option maxHeartbeats 1600000 in
theorem holds_bad (a : Option Addr) (c : Nat) (S : List Nd) (tag : Int) (v : Value) (w : World) (hN : S.length ≤ 9223372036854775807) (hB : Big S) (hS : NdsAt w a S) (hE : makeE S tag ≠ 0) :
    Calls Try.prog 4 #[.agg #[.slice a S.length c], .int .i64 tag, v] w fun e w' => e = .returned (.bool true) ∧ Below w.heap.size w w' := by
  obtain ⟨E, hE2⟩ : ∃ E, makeE S tag = E := ⟨_, rfl⟩
  rw [hE2] at hE
  have D1 : Hid (∀ W, NdsAt W a S → Calls _ _ _ _ _) := fun W hW => make_err a c S tag E W hN hB hW hE2 hE
  have HS : Hid (NdsAt w a S) := hS
  have hz : (E == 0) = false := by simp [hE]
  clear hS hB hE2
  generalize S.length = n at *
  go_enter Try.func4, Try.ntmps4
  go_wp2_with fail
  refine (D1.out _ (HS.out.below ((Below.refl _ _).alloc (Nat.le_refl _) _))).mono ?_
  rintro e w1 ⟨rfl, hb1⟩
  simp only [World.size_alloc] at hb1
  have hs1 := hb1.size
  simp only [World.size_alloc] at hs1
  have hB1 : Below w.heap.size w w1 := ((Below.refl _ _).alloc (Nat.le_refl _) _).trans (hb1.mono (by omega))
  have c1 : w1.cell? ⟨w.heap.size, 0, none⟩ = some (.slice a n c) := (hb1.cell (by simp)).trans (by go_simp)
  have f1 : w1.frozen? ⟨w.heap.size, 0, none⟩ = false := (hb1.frozen (by simp)).trans (by go_simp)
  have l1 : w.heap.size < w1.heap.size := by omega
  clear hb1
  go_wp2_with fail
  refine (Room.stored_any _).mono ?_
  rintro e w2 ⟨rfl, hb2⟩
  go_wp2_with fail
  refine (Room.stored_any _).mono ?_
  rintro e w3 ⟨rfl, hb3⟩
  go_wp2
  go_ret
  refine ⟨rfl, ?_⟩
  have h2 := hb2.size
  simp only [World.size_alloc, World.size_setCell] at hb2 h2
  refine (Below.trans ?_ (hb2.mono (by omega))).trans (hb3.mono (by omega))
  first
    | exact (hB1.setCell (by simp) _).alloc (by simp; omega) _
    | exact (hB1.alloc (by omega) _).setCell (by simp) _
end Go.Proofs.Ytjlapfgghljidaa

namespace Go.Proofs.Ytjlapfgghljidaa
open Go.RowKit

/-- The hand on place hp, use hu: it holds the node with that tag, or, once that is gone, nothing ever. -/
def HeldS (S : List Nd) (hp : Nat) (hu tag : Int) (gone : Bool) : Prop :=
  hp < S.length ∧ 1 ≤ hu ∧ (gone = true → hu ≤ (nd S hp).n ∧ ((nd S hp).u = true → hu < (nd S hp).n)) ∧ (gone = false → (nd S hp).u = true ∧ (nd S hp).n = hu ∧ (nd S hp).t = tag)

theorem held_made {S : List Nd} (h : WF S) {k : Nat} (hk : k < S.length) (tag : Int) : HeldS (S.set k (madeNd (nd S k) tag)) k ((nd S k).n + 1) tag false := by
  have := (h.uses hk).1
  refine ⟨by simpa using hk, by omega, fun e => (by cases e), fun _ => ?_⟩
  rw [nd_set S k k _ hk, if_pos rfl]
  exact ⟨rfl, rfl, rfl⟩

theorem HeldS.make {S : List Nd} {hp : Nat} {hu tag : Int} {gone : Bool} (h : HeldS S hp hu tag gone) {k : Nat} (hk : k < S.length) (hf : freeB (nd S k) = true) (t : Int) :
    HeldS (S.set k (madeNd (nd S k) t)) hp hu tag gone ∧ ¬ (k = hp ∧ (nd S k).n + 1 = hu) := by
  obtain ⟨h1, h2, h3, h4⟩ := h
  obtain ⟨f1, f2⟩ := free_parts hf
  refine ⟨⟨by simpa using h1, h2, fun e => ?_, fun e => ?_⟩, fun ⟨e1, e2⟩ => ?_⟩
  · rw [nd_set S k hp _ hk]
    obtain ⟨g1, g2⟩ := h3 e
    split
    · rename_i e2
      subst e2
      refine ⟨?_, fun _ => ?_⟩ <;> (unfold madeNd; dsimp only; omega)
    · exact ⟨g1, g2⟩
  · rw [nd_set S k hp _ hk]
    obtain ⟨g1, g2⟩ := h4 e
    rw [if_neg (fun e2 => by subst e2; rw [f1] at g1; cases g1)]
    exact ⟨g1, g2⟩
  · subst e1
    cases gone with
    | true => have := (h3 rfl).1; omega
    | false =>
      have := (h4 rfl).1
      rw [f1] at this
      cases this

theorem HeldS.free {S : List Nd} {hp : Nat} {hu tag : Int} {gone : Bool} (h : HeldS S hp hu tag gone) {p : Nat} (hp' : p < S.length) (g2 : Bool) (hg : g2 = true ↔ (gone = true ∨ p = hp)) :
    HeldS (S.set p (freedNd (nd S p))) hp hu tag g2 := by
  obtain ⟨h1, h2, h3, h4⟩ := h
  refine ⟨by simpa using h1, h2, fun e => ?_, fun e => ?_⟩
  · rw [nd_set S p hp _ hp']
    split
    · rename_i e2
      subst e2
      refine ⟨?_, fun e3 => by cases e3⟩
      cases gone with
      | true => exact (h3 rfl).1
      | false => have := (h4 rfl).2.1; unfold freedNd; dsimp only; omega
    · rename_i e2
      rcases hg.1 e with g | g
      · exact h3 g
      · exact absurd g.symm e2
  · have n1 : ¬ gone = true := fun g => by have := hg.2 (Or.inl g); rw [e] at this; cases this
    have n2 : ¬ p = hp := fun g => by have := hg.2 (Or.inr g); rw [e] at this; cases this
    rw [nd_set S p hp _ hp', if_neg (Ne.symm n2)]
    exact h4 (by simpa using n1)

theorem HeldS.gone {S : List Nd} {hp : Nat} {hu tag : Int} (h : HeldS S hp hu tag true) : holdsE S hp hu = 5 := by
  obtain ⟨h1, h2, h3, _⟩ := h
  obtain ⟨g1, g2⟩ := h3 rfl
  unfold holdsE
  rw [if_pos (by unfold isPl; exact decide_eq_true ⟨by omega, by omega⟩), Int.toNat_natCast]
  unfold holdX
  rw [if_pos (decide_eq_true ⟨h2, g1⟩)]
  split
  · rename_i hu2
    have := g2 hu2
    rw [if_neg (by omega)]
  · rfl

theorem HeldS.find_gone {S : List Nd} {hp : Nat} {hu tag : Int} (h : HeldS S hp hu tag true) (wf : WF S) : findE S hp hu = 5 := by
  unfold findE
  rw [if_pos ((wf_iff _).2 wf)]
  exact h.gone

theorem HeldS.find {S : List Nd} {hp : Nat} {hu tag : Int} (h : HeldS S hp hu tag false) (wf : WF S) : findE S hp hu = 0 ∧ (nd S hp).t = tag := by
  obtain ⟨h1, h2, _, h4⟩ := h
  obtain ⟨g1, g2, g3⟩ := h4 rfl
  exact ⟨find_zero wf (holds_used h1 g1 g2 wf), g3⟩
end Go.Proofs.Ytjlapfgghljidaa
