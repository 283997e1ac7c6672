/-
  leave, of a node with or without a Parent; a store of the call's own that stays while other blocks turn.
-/
import Derived.Test.YtcohimljgjlkdaaUb
namespace Go.Proofs.Ytcohimljgjlkdaa
open Go.RowKit

/-- The store in which ch has left its Parent's children, if it had one. -/
def leaveG (S : List Nd) (ch : Nat) : List Nd := if (nd S ch).p = -1 then S else leaveS S (nd S ch).p.toNat ch

theorem leaveG_length (S : List Nd) (ch : Nat) : (leaveG S ch).length = S.length := by
  unfold leaveG
  split
  · rfl
  · exact leaveS_length _ _ _

theorem Own.up {w : World} {B g : Nat} {S : List Nd} {kb kc : Nat → Nat} (h : Own w B g S kb kc S.length) (w3 : World) (hup : ∀ b, g ≤ b → w3.heap[b]? = w.heap[b]?) : NdsAt w3 (some ⟨g, 0, none⟩) S := by
  obtain ⟨hB, F, hF, hN, hg, hd⟩ := h
  refine Own.nds (B := B) (kb := kb) (kc := kc) ⟨hB, F, hF.of_block (hup g (Nat.le_refl _)), fun i hi => ?_, hg, hd⟩
  obtain ⟨e0, e1, e2, e3, e4, e5, e6, e7, e8, e8b, G, hG, e9⟩ := hN i hi
  exact ⟨e0, e1, e2, e3, e4, e5, e6, e7, e8, e8b, G, hG.of_block (hup (kb i) (Nat.le_of_lt (hg i hi))), e9⟩

/-- The blocks of a store of the call's own. -/
def OwnX (g n : Nat) (kb : Nat → Nat) : Nat → Prop := fun b => b = g ∨ ∃ i, i < n ∧ b = kb i

theorem leave_gen (B g c : Nat) (S : List Nd) (kb kc : Nat → Nat) (ch : Nat) (w : World) (hO : Own w B g S kb kc S.length) (hch : ch < S.length) (hp : (nd S ch).p = -1 ∨ ∃ pa : Nat, pa < S.length ∧ pa ≠ ch ∧ (nd S ch).p = pa) :
    Calls Try.prog 57 #[.slice (some ⟨g, 0, none⟩) S.length c, .int .i64 ch] w fun e w' => e = .returned (.tuple #[]) ∧ Off (OwnX g S.length kb) w w' ∧ Own w' B g (leaveG S ch) kb kc (leaveG S ch).length := by
  rcases hp with hp | ⟨pa, hpa, hne, hp⟩
  · have hc : w.cell? ⟨g, ch * 8 + 4, none⟩ = some (.int .i64 (-1)) := by
      obtain ⟨_, F, hF, hN, _, _⟩ := hO
      obtain ⟨_, _, _, _, e4, _⟩ := hN ch hch
      rw [hF.cell (by omega), e4, hp]
    refine (leave_none g c S.length ch w hch hc).mono ?_
    rintro e w' ⟨he, hb⟩
    refine ⟨he, Off.of_below hb, ?_⟩
    unfold leaveG
    rw [if_pos hp]
    exact hO.below hb
  · refine (leave_any B g c S kb kc pa ch w hO hpa hch hne hp).mono ?_
    rintro e w' ⟨he, hoff, hO'⟩
    refine ⟨he, hoff.mono (fun k _ hk => ?_), ?_⟩
    · rcases hk with hk | hk
      · exact Or.inl hk
      · exact Or.inr ⟨pa, hpa, hk⟩
    · unfold leaveG
      rw [if_neg (by omega), hp, Int.toNat_natCast]
      exact hO'
end Go.Proofs.Ytcohimljgjlkdaa
