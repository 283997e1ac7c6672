/-
  The contracts of the closure by which above goes up, and of above: what stands above some nodes, each once.
-/
import Derived.Test.YtcohimljgjlkdabVb
namespace Go.Proofs.Ytcohimljgjlkdab
open Go.RowKit

theorem ownsRow_base {w : World} {B B' e size n : Nat} {v : Value} {xs : List Value} (h : w.ownsRow B e size v n xs) (hB : B' ≤ B) : w.ownsRow B' e size v n xs := by
  obtain ⟨h1, h2⟩ := h
  refine ⟨h1, ?_⟩
  rcases h2 with h2 | ⟨g, cap, cur, h3, h4, h5⟩
  · exact Or.inl h2
  · exact Or.inr ⟨g, cap, cur, h3, Nat.le_trans hB h4, h5⟩

set_option maxHeartbeats 2000000 in
theorem aboveVisit_any (W : World) (bs bf bn gs N : Nat) (near : Bool) (st : (Nat → Bool) × List Int) (j : Nat) (w1 : World) (hj : j < N) (hN : N ≤ 1000) (h : AbvI W bf gs N st w1)
    (hbs : bs < W.heap.size) (hbf : bf < W.heap.size) (hgs : gs < W.heap.size) (hbn : bn < W.heap.size) (n1 : bs ≠ bf) (n2 : bs ≠ gs) (n3 : bn ≠ bf) (n4 : bn ≠ gs) (n5 : bf ≠ gs)
    (cs : W.cell? ⟨bs, 0, none⟩ = some (.slice (some ⟨gs, 0, none⟩) N N)) (cn : W.cell? ⟨bn, 0, none⟩ = some (.bool near)) :
    Calls Try.prog 100 #[.int .i64 (j : Int), .pointer (some ⟨bs, 0, none⟩), .pointer (some ⟨bf, 0, none⟩), .pointer (some ⟨bn, 0, none⟩)] w1 fun e w2 => e = .returned (.bool (aboveStep near st j).2) ∧ AbvI W bf gs N (aboveStep near st j).1 w2 ∧ Off (fun k => k = bf ∨ k = gs ∨ W.heap.size ≤ k) w1 w2 ∧ ∀ (k : Nat) x t, w1.heap[k]? = some (.cells #[x] t (0, 0)) → t ≠ 32 → t ≠ 4 → t ≠ 3 → w2.heap[k]? = w1.heap[k]? := by
  obtain ⟨i0, hi0, hz0, hz1, hz2⟩ := info_parts info3
  have hj2 : (j : Int) < (N : Int) := by omega
  have hsm := h.small
  have HI : Hid (AbvI W bf gs N st w1) := h
  have STEP : Hid (∀ v, w1.heap[bf]? = some (.cells #[v] 32 (0, 0)) → w1.ownsRow W.heap.size 3 1 v st.2.length (st.2.map (Value.int .i64)) → ∀ v' w2 o1, st.1 j = false → w2.ownsRow W.heap.size 3 1 v' (st.2.length + 1) (st.2.map (Value.int .i64) ++ [.int .i64 (j : Int)]) → ((w1.setCell ⟨gs, j, none⟩ (.bool true)).alloc o1).grownBy w2 v.ownBlock → _) := fun v hc hown v' w2 o1 hs hown' hg => AbvI.step h hbf hgs n5 hj hs hc o1 hown hown' hg
  obtain ⟨hO, hR, _, v, hc, hown⟩ := h
  have hsz := hO.size
  have x1 := (hO.cell (p := ⟨bs, 0, none⟩) hbs (by show ¬ (bs = bf ∨ bs = gs); omega)).trans cs
  have x2 := hR.cell hj
  have f2 := hR.frozen j
  have hgl := hR.lt
  have NEAR : Hid (∀ st' w2, AbvI W bf gs N st' w2 → w2.cell? ⟨bn, 0, none⟩ = some (.bool near)) := fun st' w2 h2 => (h2.1.cell (p := ⟨bn, 0, none⟩) hbn (by show ¬ (bn = bf ∨ bn = gs); omega)).trans cn
  have HC : Hid _ := hc
  have HO : Hid _ := hown
  have cb := box_cell hc
  have hbl := World.block_lt_of_cell? _ _ cb
  have hsl := World.block_lt_of_cell? _ _ x1
  cases hs : st.1 j with
  | true =>
    rw [aboveStep_seen hs]
    rw [hs] at x2
    clear hO hR hown hc STEP
    go_enter Try.func100, Try.ntmps100
    go_wp2
    go_ret
    exact ⟨rfl, HI.out, Off.refl _ _, fun _ _ _ _ _ _ _ => rfl⟩
  | false =>
    rw [aboveStep_new hs]
    rw [hs] at x2
    have ST2 : Hid _ := STEP.out v hc hown
    have HS : Hid _ := hs
    have cb' : (w1.setCell ⟨gs, j, none⟩ (.bool true)).cell? ⟨bf, 0, none⟩ = some v := (World.cell?_setCell_other _ _ _ _ (by intro e; exact n5 (by simpa using (congrArg Addr.block e).symm))).trans cb
    have OWN2 : Hid ((w1.setCell ⟨gs, j, none⟩ (.bool true)).ownsRow W.heap.size 3 1 v st.2.length (st.2.map (Value.int .i64))) := hown.kept (grownBy_setCell w1 ⟨gs, j, none⟩ (.bool true)) (by
      cases hv : v.ownBlock with
      | none => exact Or.inl rfl
      | some k => right; intro e; have := (hown.lt k hv).1; simp at e; omega)
    have OFF : Hid (∀ v' w2 o1, ((w1.setCell ⟨gs, j, none⟩ (.bool true)).alloc o1).grownBy w2 v.ownBlock → Off (fun k => k = bf ∨ k = gs ∨ W.heap.size ≤ k) w1 (w2.setCell ⟨bf, 0, none⟩ v')) := fun v' w2 o1 hg => ⟨hg.os, hg.tape, hg.output, by have := hg.size; simp at this ⊢; omega, fun k hk hx => by
      rw [Below.heap_setCell _ _ _ _ (by show k ≠ bf; exact fun e => hx (Or.inl e)), hg.block k (by simp; omega) (fun e => by have := (hown.lt k e.symm).1; exact hx (Or.inr (Or.inr this))), Below.heap_alloc _ _ _ (by simp; omega), Below.heap_setCell _ _ _ _ (by show k ≠ gs; exact fun e => hx (Or.inr (Or.inl e)))]⟩
    clear hO hR hown hc STEP hs cb HO
    generalize ((fun i => if i = j then true else st.1 i, st.2 ++ [(j : Int)]) : (Nat → Bool) × List Int) = st' at *
    go_enter Try.func100, Try.ntmps100
    go_wp2_with (at_builtin; refine wpList_append_own _ rfl _ _ 32 rfl W.heap.size 3 i0 (.int .i64 0) 1 8 Try.underlying32 hi0 hz0 hz1 hz2 rfl (by decide) _ _ _ rfl (OWN2.out.alloc _) ⟨w1.heap.size, 0, none⟩ 1 1 [.int .i64 (j : Int)] rfl rfl ?c1 ?c2 ?c3 ?c4 ?c5 ?_)
    case c2 => rfl
    case c3 => unfold maxLen; omega
    case c4 => omega
    case c5 => omega
    intro v' w2 hown' hgrow _
    obtain ⟨g', cap', rfl⟩ : ∃ g' cap', v' = .slice (some ⟨g', 0, none⟩) (st.2.length + 1) cap' := by
      rcases hown'.2 with ⟨_, h⟩ | ⟨g', cap', cur, h, _⟩
      · omega
      · exact ⟨g', cap', h⟩
    obtain ⟨hc2, hty, hI2⟩ := ST2.out _ _ _ HS.out hown' hgrow
    have HOFF : Hid _ := OFF.out (.slice (some ⟨g', 0, none⟩) (st.2.length + 1) cap') _ _ hgrow
    have HI2 : Hid _ := hI2
    have HTY : Hid _ := hty
    have cb2 := box_cell hc2
    have fb2 := fun o => box_frozen (o := o) hc2
    have cn2 := NEAR.out _ _ hI2
    clear hown' hgrow hI2 hty hc2
    go_wp2
    go_ret
    exact ⟨rfl, HI2.out, HOFF.out, HTY.out⟩
end Go.Proofs.Ytcohimljgjlkdab
