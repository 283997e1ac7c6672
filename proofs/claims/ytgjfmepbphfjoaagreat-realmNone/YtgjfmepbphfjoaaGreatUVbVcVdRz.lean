/-
  The contract of the closure by which above goes up: what was seen, and what was found, lie in memory of the call's own.
-/
import Derived.Test.YtgjfmepbphfjoaaGreatUVaLcLd
import Derived.Test.YtgjfmepbphfjoaaGreatUTmTnZpLb
import Derived.Test.YtgjfmepbphfjoaaGreatUTdTeSo
import Derived.Test.YtgjfmepbphfjoaaGreatUSaSbScBa
namespace Go.Proofs.YtgjfmepbphfjoaaGreat
open Go.RowKit

/-- What above has seen and found so far. -/
def AbvI (W : World) (bf gs N : Nat) (st : (Nat → Bool) × List Int) (w1 : World) : Prop :=
  Off (fun k => k = bf ∨ k = gs) W w1 ∧ w1.rowIs gs 4 N (fun j => .bool (st.1 j)) ∧ (st.2.Nodup ∧ ∀ x ∈ st.2, ∃ j : Nat, j < N ∧ x = j ∧ st.1 j = true) ∧
  ∃ v, w1.heap[bf]? = some (.cells #[v] 29 (0, 0)) ∧ w1.ownsRow W.heap.size 3 1 v st.2.length (st.2.map (Value.int .i64))

theorem AbvI.small {W w1 : World} {bf gs N : Nat} {st : (Nat → Bool) × List Int} (h : AbvI W bf gs N st w1) : st.2.length ≤ N := by
  obtain ⟨_, _, ⟨h1, h2⟩, _⟩ := h
  have := h1.length_le_of_subset (l₂ := (List.range N).map (fun i : Nat => (i : Int))) (fun x hx => by
    obtain ⟨j, hj, rfl, _⟩ := h2 x hx
    exact List.mem_map.2 ⟨j, List.mem_range.2 hj, rfl⟩)
  simpa using this

theorem AbvI.below {W w1 w2 : World} {bf gs N : Nat} {st : (Nat → Bool) × List Int} (h : AbvI W bf gs N st w1) (hb : Below w1.heap.size w1 w2) : AbvI W bf gs N st w2 := by
  obtain ⟨hO, hR, hN, v, hc, hown⟩ := h
  have hbw := (Array.getElem?_eq_some_iff.1 hc).1
  exact ⟨hO.trans (Off.of_below hb), hR.of_block (hb.block gs hR.lt), hN, v, (hb.block _ hbw).trans hc, hown.kept (row := none) ⟨hb.os, hb.tape, hb.output, hb.size, fun k hk _ => hb.block k hk⟩ (by
    cases hv : v.ownBlock with
    | none => exact Or.inl rfl
    | some k => exact Or.inr (fun e => by cases e))⟩

/-- One more found: the seen row turned in one cell, the slice grown, its variable stored anew. -/
theorem AbvI.step {W w1 w2 : World} {bf gs N j : Nat} {st : (Nat → Bool) × List Int} (h : AbvI W bf gs N st w1) (hbf : bf < W.heap.size) (hgs : gs < W.heap.size) (hne : bf ≠ gs) (hj : j < N) (hs : st.1 j = false) {v v' : Value} (hc : w1.heap[bf]? = some (.cells #[v] 29 (0, 0))) (o1 : Obj)
    (hown : w1.ownsRow W.heap.size 3 1 v st.2.length (st.2.map (Value.int .i64)))
    (hown' : w2.ownsRow W.heap.size 3 1 v' (st.2.length + 1) (st.2.map (Value.int .i64) ++ [.int .i64 (j : Int)])) (hg : ((w1.setCell ⟨gs, j, none⟩ (.bool true)).alloc o1).grownBy w2 v.ownBlock) :
    w2.heap[bf]? = some (.cells #[v] 29 (0, 0)) ∧ (∀ k : Nat, ∀ x t, w1.heap[k]? = some (.cells #[x] t (0, 0)) → t ≠ 29 → t ≠ 4 → t ≠ 3 → (w2.setCell ⟨bf, 0, none⟩ v').heap[k]? = w1.heap[k]?) ∧ AbvI W bf gs N (fun i => if i = j then true else st.1 i, st.2 ++ [(j : Int)]) (w2.setCell ⟨bf, 0, none⟩ v') := by
  obtain ⟨hO, hR, ⟨hN1, hN2⟩, v0, hc0, _⟩ := h
  have hrow : ∀ k, v.ownBlock = some k → W.heap.size ≤ k := fun k hk => (hown.lt k hk).1
  have hsz := hO.size
  have hblk : ∀ k, k < W.heap.size → k ≠ gs → w2.heap[k]? = w1.heap[k]? := fun k hk hkg =>
    (hg.block k (by simp; omega) (fun e => by have := hrow k e.symm; omega)).trans ((Below.heap_alloc _ _ _ (by simp; omega)).trans (Below.heap_setCell _ _ _ _ (by exact hkg)))
  have hgs2 : w2.heap[gs]? = (w1.setCell ⟨gs, j, none⟩ (.bool true)).heap[gs]? :=
    (hg.block gs (by simp; omega) (fun e => by have := hrow gs e.symm; omega)).trans (Below.heap_alloc _ _ _ (by simp; omega))
  have hc2 : w2.heap[bf]? = some (.cells #[v] 29 (0, 0)) := (hblk bf hbf hne).trans hc
  refine ⟨hc2, fun k x t hk h1 h2 h3 => ?_, ?_, ?_, ⟨?_, ?_⟩, v', box_set hc2, ?_⟩
  · have hkl := (Array.getElem?_eq_some_iff.1 hk).1
    have n1 : k ≠ bf := fun e => by rw [e, hc] at hk; cases hk; exact h1 rfl
    have n2 : k ≠ gs := fun e => by
      obtain ⟨cur, hcur, _⟩ := hR
      rw [e, hcur] at hk; cases hk; exact h2 rfl
    rw [Below.heap_setCell _ _ _ _ (by exact n1), hg.block k (by simp; omega) (fun e => by
      rcases hown.2 with ⟨hv, _⟩ | ⟨g, cap, cur, hv, _, hcur, _⟩
      · rw [hv] at e; cases e
      · rw [hv] at e
        have : k = g := by simpa [Value.ownBlock] using e
        rw [this, hcur] at hk; cases hk; exact h3 rfl), Below.heap_alloc _ _ _ (by simp; omega), Below.heap_setCell _ _ _ _ (by exact n2)]
  · refine ⟨?_, ?_, ?_, ?_, fun k hk hx => ?_⟩
    · exact hg.os.trans hO.os
    · exact hg.tape.trans hO.tape
    · exact hg.output.trans hO.output
    · have := hg.size; simp at this ⊢; omega
    · rw [Below.heap_setCell _ _ _ _ (by show k ≠ bf; exact fun e => hx (Or.inl e)), hblk k hk (fun e => hx (Or.inr e))]; exact hO.block k hk hx
  · have h1 := ((hR.set j (.bool true)).of_block hgs2).setOther (a := ⟨bf, 0, none⟩) (by simp; omega) v'
    refine h1.congr (fun i _ => ?_)
    dsimp only
    by_cases e : i = j
    · rw [if_pos e, if_pos e]
    · rw [if_neg e, if_neg e]
  · rw [List.nodup_append]
    refine ⟨hN1, by simp, fun a ha b hb e => ?_⟩
    have hbj : b = (j : Int) := by simpa using hb
    obtain ⟨i, hi, hia, hst⟩ := hN2 a ha
    have : i = j := by omega
    rw [this, hs] at hst
    cases hst
  · intro x hx
    rcases List.mem_append.1 hx with hx | hx
    · obtain ⟨i, hi, rfl, hst⟩ := hN2 x hx
      refine ⟨i, hi, rfl, ?_⟩
      dsimp only
      by_cases e : i = j
      · rw [if_pos e]
      · rw [if_neg e]; exact hst
    · exact ⟨j, hj, by simpa using hx, if_pos rfl⟩
  · have h3 := hown'.kept (grownBy_setCell w2 ⟨bf, 0, none⟩ v') (by
      cases hb : v'.ownBlock with
      | none => exact Or.inl rfl
      | some k => right; intro e; have := (hown'.lt k hb).1; simp at e; omega)
    simpa using h3
end Go.Proofs.YtgjfmepbphfjoaaGreat

namespace Go.Proofs.YtgjfmepbphfjoaaGreat
open Go.RowKit

set_option maxHeartbeats 2000000 in
theorem aboveVisit_any (W : World) (bs bf bn gs N : Nat) (near : Bool) (st : (Nat → Bool) × List Int) (j : Nat) (w1 : World) (hj : j < N) (hN : N ≤ 1000) (h : AbvI W bf gs N st w1)
    (hbs : bs < W.heap.size) (hbf : bf < W.heap.size) (hgs : gs < W.heap.size) (hbn : bn < W.heap.size) (n1 : bs ≠ bf) (n2 : bs ≠ gs) (n3 : bn ≠ bf) (n4 : bn ≠ gs) (n5 : bf ≠ gs)
    (cs : W.cell? ⟨bs, 0, none⟩ = some (.slice (some ⟨gs, 0, none⟩) N N)) (cn : W.cell? ⟨bn, 0, none⟩ = some (.bool near)) :
    Calls Tryz.prog 147 #[.int .i64 (j : Int), .pointer (some ⟨bs, 0, none⟩), .pointer (some ⟨bf, 0, none⟩), .pointer (some ⟨bn, 0, none⟩)] w1 fun e w2 => e = .returned (.bool (aboveStep near st j).2) ∧ AbvI W bf gs N (aboveStep near st j).1 w2 ∧ Off (fun k => k = bf ∨ k = gs ∨ W.heap.size ≤ k) w1 w2 ∧ ∀ (k : Nat) x t, w1.heap[k]? = some (.cells #[x] t (0, 0)) → t ≠ 29 → t ≠ 4 → t ≠ 3 → w2.heap[k]? = w1.heap[k]? := by
  obtain ⟨i0, hi0, hz0, hz1, hz2⟩ := info_parts info3
  have hj2 : (j : Int) < (N : Int) := by omega
  have hsm := h.small
  have HI : Hid (AbvI W bf gs N st w1) := h
  have STEP : Hid (∀ v, w1.heap[bf]? = some (.cells #[v] 29 (0, 0)) → w1.ownsRow W.heap.size 3 1 v st.2.length (st.2.map (Value.int .i64)) → ∀ v' w2 o1, st.1 j = false → w2.ownsRow W.heap.size 3 1 v' (st.2.length + 1) (st.2.map (Value.int .i64) ++ [.int .i64 (j : Int)]) → ((w1.setCell ⟨gs, j, none⟩ (.bool true)).alloc o1).grownBy w2 v.ownBlock → _) := fun v hc hown v' w2 o1 hs hown' hg => AbvI.step h hbf hgs n5 hj hs hc o1 hown hown' hg
  obtain ⟨hO, hR, _, v, hc, hown⟩ := h
  have hsz := hO.size
  have x1 := (hO.cell (p := ⟨bs, 0, none⟩) hbs (by show ¬ (bs = bf ∨ bs = gs); omega)).trans cs
  have x2 := hR.cell hj
  have f2 := hR.frozen j
  have hgl := hR.lt
  have NEAR : Hid (∀ st' w2, AbvI W bf gs N st' w2 → w2.cell? ⟨bn, 0, none⟩ = some (.bool near)) := fun st' w2 h2 => (h2.1.cell (p := ⟨bn, 0, none⟩) hbn (by show ¬ (bn = bf ∨ bn = gs); omega)).trans cn
  have HC : Hid _ := hc
  have HO : Hid _ := hown
  have cb := box_cell hc
  have hbl := World.block_lt_of_cell? _ _ cb
  have hsl := World.block_lt_of_cell? _ _ x1
  cases hs : st.1 j with
  | true =>
    rw [aboveStep_seen hs]
    rw [hs] at x2
    clear hO hR hown hc STEP
    go_enter Tryz.func147, Tryz.ntmps147
    go_wp2
    go_ret
    exact ⟨rfl, HI.out, Off.refl _ _, fun _ _ _ _ _ _ _ => rfl⟩
  | false =>
    rw [aboveStep_new hs]
    rw [hs] at x2
    have ST2 : Hid _ := STEP.out v hc hown
    have HS : Hid _ := hs
    have cb' : (w1.setCell ⟨gs, j, none⟩ (.bool true)).cell? ⟨bf, 0, none⟩ = some v := (World.cell?_setCell_other _ _ _ _ (by intro e; exact n5 (by simpa using (congrArg Addr.block e).symm))).trans cb
    have OWN2 : Hid ((w1.setCell ⟨gs, j, none⟩ (.bool true)).ownsRow W.heap.size 3 1 v st.2.length (st.2.map (Value.int .i64))) := hown.kept (grownBy_setCell w1 ⟨gs, j, none⟩ (.bool true)) (by
      cases hv : v.ownBlock with
      | none => exact Or.inl rfl
      | some k => right; intro e; have := (hown.lt k hv).1; simp at e; omega)
    have OFF : Hid (∀ v' w2 o1, ((w1.setCell ⟨gs, j, none⟩ (.bool true)).alloc o1).grownBy w2 v.ownBlock → Off (fun k => k = bf ∨ k = gs ∨ W.heap.size ≤ k) w1 (w2.setCell ⟨bf, 0, none⟩ v')) := fun v' w2 o1 hg => ⟨hg.os, hg.tape, hg.output, by have := hg.size; simp at this ⊢; omega, fun k hk hx => by
      rw [Below.heap_setCell _ _ _ _ (by show k ≠ bf; exact fun e => hx (Or.inl e)), hg.block k (by simp; omega) (fun e => by have := (hown.lt k e.symm).1; exact hx (Or.inr (Or.inr this))), Below.heap_alloc _ _ _ (by simp; omega), Below.heap_setCell _ _ _ _ (by show k ≠ gs; exact fun e => hx (Or.inr (Or.inl e)))]⟩
    clear hO hR hown hc STEP hs cb HO
    generalize ((fun i => if i = j then true else st.1 i, st.2 ++ [(j : Int)]) : (Nat → Bool) × List Int) = st' at *
    go_enter Tryz.func147, Tryz.ntmps147
    go_wp2_with (at_builtin; refine wpList_append_own _ rfl _ _ 29 rfl W.heap.size 3 i0 (.int .i64 0) 1 8 Tryz.underlying29 hi0 hz0 hz1 hz2 rfl (by decide) _ _ _ rfl (OWN2.out.alloc _) ⟨w1.heap.size, 0, none⟩ 1 1 [.int .i64 (j : Int)] rfl rfl ?c1 ?c2 ?c3 ?c4 ?c5 ?_)
    case c2 => rfl
    case c3 => unfold maxLen; omega
    case c4 => omega
    case c5 => omega
    intro v' w2 hown' hgrow _
    obtain ⟨g', cap', rfl⟩ : ∃ g' cap', v' = .slice (some ⟨g', 0, none⟩) (st.2.length + 1) cap' := by
      rcases hown'.2 with ⟨_, h⟩ | ⟨g', cap', cur, h, _⟩
      · omega
      · exact ⟨g', cap', h⟩
    obtain ⟨hc2, hty, hI2⟩ := ST2.out _ _ _ HS.out hown' hgrow
    have HOFF : Hid _ := OFF.out (.slice (some ⟨g', 0, none⟩) (st.2.length + 1) cap') _ _ hgrow
    have HI2 : Hid _ := hI2
    have HTY : Hid _ := hty
    have cb2 := box_cell hc2
    have fb2 := fun o => box_frozen (o := o) hc2
    have cn2 := NEAR.out _ _ hI2
    clear hown' hgrow hI2 hty hc2
    go_wp2
    go_ret
    exact ⟨rfl, HI2.out, HOFF.out, HTY.out⟩
end Go.Proofs.YtgjfmepbphfjoaaGreat

namespace Go.Proofs.YtgjfmepbphfjoaaGreat
open Go.RowKit

theorem parent_any (x : Nd) (k : Value) (w : World) :
    Calls Tryz.prog 146 #[.agg #[.bool x.u, .int .i64 x.n, .int .i64 x.t, .int .i64 x.m, .int .i64 x.p, k, .int .i64 x.h, .bool x.c]] w fun e w' => e = .returned (.int .i64 x.p) ∧ Below w.heap.size w w' := by
  go_enter Tryz.func146, Tryz.ntmps146
  go_wp2
  go_ret
  exact ⟨rfl, (Below.refl _ _).alloc (Nat.le_refl _) _⟩

theorem climb_above (W0 W : World) (a : Option Addr) (c : Nat) (S : List Nd) (near : Bool) (bs bf bn gs : Nat) (hN : S.length ≤ 24) (hS : NdsAt W0 a S) (hW : Below W0.heap.size W0 W) (h1 : W0.heap.size ≤ bf) (h2 : W0.heap.size ≤ gs)
    (hbs : bs < W.heap.size) (hbf : bf < W.heap.size) (hgs : gs < W.heap.size) (hbn : bn < W.heap.size) (n1 : bs ≠ bf) (n2 : bs ≠ gs) (n3 : bn ≠ bf) (n4 : bn ≠ gs) (n5 : bf ≠ gs)
    (cs : W.cell? ⟨bs, 0, none⟩ = some (.slice (some ⟨gs, 0, none⟩) S.length S.length)) (cn : W.cell? ⟨bn, 0, none⟩ = some (.bool near)) (st : (Nat → Bool) × List Int) (place : Int) (w : World) (h : AbvI W bf gs S.length st w) :
    Calls Tryz.prog 119 #[.agg #[.slice a S.length c], .int .i64 place, .func (.func 146) #[] #[], .func (.func 147) #[] #[.pointer (some ⟨bs, 0, none⟩), .pointer (some ⟨bf, 0, none⟩), .pointer (some ⟨bn, 0, none⟩)]] w fun e w' => e = .returned (.tuple #[]) ∧ AbvI W bf gs S.length (climbA S near st place) w' := by
  refine (climb_any a c S w place 146 147 #[.pointer (some ⟨bs, 0, none⟩), .pointer (some ⟨bf, 0, none⟩), .pointer (some ⟨bn, 0, none⟩)] Nd.p (aboveStep near) (AbvI W bf gs S.length) (fun k => k = bf ∨ k = gs ∨ W.heap.size ≤ k) st (by omega)
    (fun st w1 h => hS.below (hW.trans (h.1.below (B := W0.heap.size) hW.size (fun k hk => by rcases hk with hk | hk <;> omega))))
    (fun st w1 w2 h hb => h.below hb)
    (enters_of Tryz.func146 (by kernel_rfl) rfl) (enters_of Tryz.func147 (by kernel_rfl) rfl)
    (fun x k w1 => parent_any x k w1)
    (fun st x w1 h _ hx => ?_) h).mono ?_
  · have hq : 0 ≤ x ∧ x ≤ (S.length : Int) - 1 := of_decide_eq_true hx
    obtain ⟨j, rfl⟩ : ∃ j : Nat, x = (j : Int) := ⟨x.toNat, by omega⟩
    refine (aboveVisit_any W bs bf bn gs S.length near st j w1 (by omega) (by omega) h hbs hbf hgs hbn n1 n2 n3 n4 n5 cs cn).mono ?_
    rintro e w2 ⟨rfl, g1, g2, g3⟩
    exact ⟨rfl, g1, g2, fun k hk => g3 k _ _ hk (by decide) (by decide) (by decide)⟩
  · rintro e w' ⟨rfl, g1, _⟩
    exact ⟨rfl, g1⟩

theorem five_below (w : World) (o1 o2 o3 o4 o5 : Obj) : Below w.heap.size w (((((w.alloc o1).alloc o2).alloc o3).alloc o4).alloc o5) := (((three_below w o1 o2 o3).alloc (by simp; omega) _).alloc (by simp; omega) _)

set_option maxHeartbeats 2000000 in
theorem above_any (a : Option Addr) (c : Nat) (S : List Nd) (pa : Option Addr) (pc : Nat) (places : List Int) (near : Bool) (w : World) (hN : S.length ≤ 24) (hS : NdsAt w a S) (hL : places.length ≤ 1000000) (hP : IntsAt w pa places) :
    Calls Tryz.prog 141 #[.agg #[.slice a S.length c], .slice pa places.length pc, .bool near] w fun e w' => ∃ v, e = .returned v ∧ Below w.heap.size w w' ∧ w'.ownsRow w.heap.size 3 1 v (aboveF S near places).length ((aboveF S near places).map (Value.int .i64)) ∧ (aboveF S near places).length ≤ S.length := by
  have hmk := makeBools S.length hN
  have HS : Hid (NdsAt w a S) := hS
  have HP : Hid (IntsAt w pa places) := hP
  have HT : Hid (∀ k, k < places.length → aboveSt S near (places.take (k + 1)) = climbA S near (aboveSt S near (places.take k)) (places.getD k 0)) := fun k hk => aboveSt_take S near places k hk
  have CL : Hid (∀ W bs bf bn gs, _) := fun W bs bf bn gs => fun (hW : Below w.heap.size w W) h1 h2 hbs hbf hgs hbn n1 n2 n3 n4 n5 cs cn st place W1 h => climb_above w W a c S near bs bf bn gs hN hS hW h1 h2 hbs hbf hgs hbn n1 n2 n3 n4 n5 cs cn st place W1 h
  have H0 : Hid (aboveSt S near (places.take 0) = (fun _ => false, [])) := rfl
  have HE : Hid (aboveF S near places = (aboveSt S near (places.take places.length)).2) := by show _ = _; rw [List.take_length]; rfl
  generalize aboveF S near places = R at *
  clear hS hP
  generalize hn : S.length = n at *
  have HN : Hid _ := hn
  clear hn
  generalize hl : places.length = L at *
  have HL : Hid _ := hl
  clear hl
  go_enter Tryz.func141, Tryz.ntmps141
  go_wp2
  obtain ⟨W, hW⟩ : ∃ W, W = (((((w.alloc (.cells #[.slice a n c] 24)).alloc (.cells #[.bool near] 4)).alloc (.cells (madeCells #[.bool false] n) 4)).alloc (.cells #[.slice (some ⟨w.heap.size + 1 + 1, 0, none⟩) n n] 139)).alloc (.cells #[.slice none 0 0] 29)) := ⟨_, rfl⟩
  rw [← hW]
  have hb : Below w.heap.size w W := by rw [hW]; exact five_below _ _ _ _ _ _
  have hz : W.heap.size = w.heap.size + 1 + 1 + 1 + 1 + 1 := by rw [hW]; simp
  have c0 : W.cell? ⟨w.heap.size, 0, none⟩ = some (.slice a n c) := by rw [hW]; go_simp
  have cn : W.cell? ⟨w.heap.size + 1, 0, none⟩ = some (.bool near) := by rw [hW]; go_simp
  have cs : W.cell? ⟨w.heap.size + 1 + 1 + 1, 0, none⟩ = some (.slice (some ⟨w.heap.size + 1 + 1, 0, none⟩) n n) := by rw [hW]; go_simp
  have hI0 : AbvI W (w.heap.size + 1 + 1 + 1 + 1) (w.heap.size + 1 + 1) n (fun _ => false, []) W := by
    refine ⟨Off.refl _ _, ?_, ⟨by simp, fun x hx => by cases hx⟩, .slice none 0 0, ?_, World.ownsRow_nil _ _ _ _⟩
    · rw [hW]
      have h0 := World.rowIs_made ((w.alloc (.cells #[.slice a n c] 24)).alloc (.cells #[.bool near] 4)) (.bool false) n 4
      have h1 : Below (w.heap.size + 1 + 1 + 1) (((w.alloc (.cells #[.slice a n c] 24)).alloc (.cells #[.bool near] 4)).alloc (.cells (madeCells #[.bool false] n) 4)) (((((w.alloc (.cells #[.slice a n c] 24)).alloc (.cells #[.bool near] 4)).alloc (.cells (madeCells #[.bool false] n) 4)).alloc (.cells #[.slice (some ⟨w.heap.size + 1 + 1, 0, none⟩) n n] 139)).alloc (.cells #[.slice none 0 0] 29)) := ((Below.refl _ _).alloc (by simp) _).alloc (by first | (simp; done) | (simp; omega)) _
      simp only [World.size_alloc] at h0
      exact h0.of_block (h1.block _ (by omega))
    · rw [hW]
      have := heap_alloc_new ((((w.alloc (.cells #[.slice a n c] 24)).alloc (.cells #[.bool near] 4)).alloc (.cells (madeCells #[.bool false] n) 4)).alloc (.cells #[.slice (some ⟨w.heap.size + 1 + 1, 0, none⟩) n n] 139)) (.cells #[.slice none 0 0] 29)
      simpa using this
  have HI0 : Hid _ := hI0
  have HBW : Hid (Below w.heap.size w W) := hb
  have CL2 : Hid _ := CL.out W (w.heap.size + 1 + 1 + 1) (w.heap.size + 1 + 1 + 1 + 1) (w.heap.size + 1) (w.heap.size + 1 + 1) hb (by omega) (by omega) (by omega) (by omega) (by omega) (by omega) (by omega) (by omega) (by omega) (by omega) (by omega) cs cn
  have C0 : Hid (∀ st w1, AbvI W (w.heap.size + 1 + 1 + 1 + 1) (w.heap.size + 1 + 1) n st w1 → w1.cell? ⟨w.heap.size, 0, none⟩ = some (.slice a n c) ∧ Below w.heap.size w w1 ∧ w.heap.size < w1.heap.size) := fun st w1 h => ⟨(h.1.cell (p := ⟨w.heap.size, 0, none⟩) (by show w.heap.size < _; omega) (by show ¬ (w.heap.size = w.heap.size + 1 + 1 + 1 + 1 ∨ w.heap.size = w.heap.size + 1 + 1); omega)).trans c0, HBW.out.trans (h.1.below HBW.out.size (fun k hk => by rcases hk with hk | hk <;> omega)), by have := h.1.size; omega⟩
  clear hW hb c0 cn cs hI0 CL
  go_loopg [17] L (fun g1 s17 wr => ∃ k : Nat, k ≤ L ∧ L - k ≤ g1 ∧ s17 = .int .i64 k ∧ Hid (AbvI W (w.heap.size + 1 + 1 + 1 + 1) (w.heap.size + 1 + 1) n (aboveSt S near (places.take k)) wr))
  case atStart => exact ⟨0, by omega, by omega, rfl, by rw [H0.out]; exact HI0⟩
  case round =>
    obtain ⟨k, hk, hg1, rfl, I1⟩ := hrel
    obtain ⟨c0, hb1, hs1⟩ := C0.out _ _ I1.out
    have HB1 : Hid _ := hb1
    by_cases hlt : k < L
    · have hlt2 : (k : Int) < (L : Int) := by omega
      obtain ⟨pb, po, rfl, hp⟩ := (HP.out.below hb1) k (by rw [HL.out]; exact hlt)
      have hpl := World.block_lt_of_cell? _ _ hp
      have hc := CL2.out (aboveSt S near (places.take k)) (places.getD k 0) wr I1.out
      have TK := HT.out k hlt
      rw [← TK] at hc
      have HC : Hid _ := hc
      clear hc TK hb1
      generalize places.getD k 0 = y at *
      go_wp2_with fail
      refine Calls.mono HC.out ?_
      rintro e w2 ⟨rfl, I2⟩
      go_wp2
      go_roundg (L - (k + 1))
      case measure => omega
      case rel => exact ⟨k + 1, by omega, by omega, by go_num, I2⟩
    · have hk' : k = L := by omega
      subst hk'
      obtain ⟨hO, _, _, v, hv, hown⟩ := I1.out
      have cb := box_cell hv
      have OW : Hid (wr.ownsRow w.heap.size 3 1 v R.length (R.map (Value.int .i64))) := by
        rw [HE.out]; exact ownsRow_base hown (by omega)
      have SM : Hid (R.length ≤ n) := by show _ ≤ _; rw [HE.out]; exact I1.out.small
      clear hO hv hown hb1
      go_wp2
      go_ret
      exact ⟨v, rfl, HB1.out, OW.out, SM.out⟩
end Go.Proofs.YtgjfmepbphfjoaaGreat


