/-
  Searches among nodes with any closure; IsHost; Make where no node is made.
-/
import Derived.Test.YtfaaijoneaompaaGreatJSnWd
namespace Go.Proofs.YtfaaijoneaompaaGreat
open Go.RowKit

/-- What is asked of a function value that tells yes or no of a node. -/
def TellsN (K : Nat) (caps : Array Value) (p : Nd → Bool) (w : World) : Prop :=
  ∀ (x : Nd) (k : Value) (w1 : World), Below w.heap.size w w1 → Calls Tryz.prog K (#[.agg #[.bool x.u, .int .i64 x.n, .int .i64 x.t, .int .i64 x.m, .int .i64 x.p, k, .int .i64 x.h, .bool x.c]] ++ caps) w1 fun e w2 => e = .returned (.bool (p x)) ∧ Below w1.heap.size w1 w2

set_option maxHeartbeats 800000 in
theorem indexNd_any (K : Nat) (caps : Array Value) (p : Nd → Bool) (a : Option Addr) (c : Nat) (S : List Nd) (w : World) (hbig : S.length ≤ 9223372036854775807) (hS : NdsAt w a S)
    (eg : ∀ args w, (callFunc K args).run Tryz.prog w = .ok (.enter K args) w) (hf : TellsN K caps p w) :
    Calls Tryz.prog 69 #[.slice a S.length c, .func (.func K) #[] caps] w fun e w' => ∃ r : Int, e = .returned (.int .i64 r) ∧ Below w.heap.size w w' ∧
      ((r = -1 ∧ ∀ i, i < S.length → p (nd S i) = false) ∨ (∃ k : Nat, k < S.length ∧ r = k ∧ p (nd S k) = true ∧ ∀ i, i < k → p (nd S i) = false)) := by
  have HS : Hid (NdsAt w a S) := hS
  have HF : Hid (TellsN K caps p w) := hf
  clear hS hf
  generalize hn : S.length = n at *
  have HN : Hid _ := hn
  clear hn
  go_enter Tryz.func69, Tryz.ntmps69
  go_wp2
  go_loopg [8] n (fun g s8 wr => ∃ k : Nat, k ≤ n ∧ n - k ≤ g ∧ s8 = .int .i64 k ∧ Below w.heap.size w wr ∧ Hid (∀ i, i < k → p (nd S i) = false))
  case atStart => exact ⟨0, by omega, by omega, rfl, Below.refl _ _, fun i hi => by omega⟩
  case round =>
    obtain ⟨k, hk, hg, rfl, hb, A⟩ := hrel
    by_cases hlt : k < n
    · have hlt2 : (k : Int) < (n : Int) := by omega
      obtain ⟨b, o, rfl, c0, c1, c2, c3, c4, ⟨ka, kc, c5, _⟩, c6, c7⟩ := (HS.out.below hb) k (by rw [HN.out]; exact hlt)
      have hcall := fun v => HF.out (nd S k) v wr hb
      cases hq : p (nd S k) with
      | true =>
        have HQ : Hid (p (nd S k) = true) := hq
        rw [hq] at hcall
        clear hq
        generalize hx : nd S k = x at hcall c0 c1 c2 c3 c4 c5 c6 c7
        clear hx
        go_wp2_with (go_at_fn K; refine (hcall _).mono ?_; rintro e w' ⟨rfl, hb2⟩)
        go_ret
        exact ⟨k, rfl, hb.trans (hb2.mono hb.size), Or.inr ⟨k, hlt, rfl, HQ.out, A.out⟩⟩
      | false =>
        have HQ : Hid (p (nd S k) = false) := hq
        rw [hq] at hcall
        clear hq
        generalize hx : nd S k = x at hcall c0 c1 c2 c3 c4 c5 c6 c7
        clear hx
        go_wp2_with (go_at_fn K; refine (hcall _).mono ?_; rintro e w' ⟨rfl, hb2⟩)
        go_roundg (n - (k + 1))
        case measure => omega
        case rel =>
          refine ⟨k + 1, by omega, by omega, by go_num, hb.trans (hb2.mono hb.size), (show Hid _ from fun i hi => ?_)⟩
          by_cases e : i = k
          · subst e
            exact HQ.out
          · exact A.out i (by omega)
    · have : k = n := by omega
      subst this
      go_wp2
      go_ret
      exact ⟨-1, rfl, hb, Or.inl ⟨rfl, A.out⟩⟩

def hostB (S : List Nd) (x : Int) : Bool := S.any fun n => decide (n.h = x)

theorem hostB_true {S : List Nd} {x : Int} {k : Nat} (hk : k < S.length) (h : (nd S k).h = x) : hostB S x = true :=
  List.any_eq_true.2 ⟨nd S k, by rw [nd_elem hk]; exact List.getElem_mem hk, decide_eq_true h⟩
theorem hostB_false {S : List Nd} {x : Int} : hostB S x = false ↔ ∀ i, i < S.length → (nd S i).h ≠ x := by
  unfold hostB
  rw [List.any_eq_false]
  constructor
  · intro H i hi e
    have := H (nd S i) (by rw [nd_elem hi]; exact List.getElem_mem hi)
    simp [e] at this
  · intro H y hy
    obtain ⟨i, hi, rfl⟩ := List.getElem_of_mem hy
    have := H i hi
    rw [nd_elem hi] at this
    simpa using this

set_option maxHeartbeats 400000 in
theorem rootOf1_any (x : Nd) (k : Value) (q : Nat) (y : Int) (w : World) (hq : w.cell? ⟨q, 0, none⟩ = some (.int .i64 y)) :
    Calls Tryz.prog 90 #[.agg #[.bool x.u, .int .i64 x.n, .int .i64 x.t, .int .i64 x.m, .int .i64 x.p, k, .int .i64 x.h, .bool x.c], .pointer (some ⟨q, 0, none⟩)] w fun e w' => e = .returned (.bool (decide (x.h = y))) ∧ Below w.heap.size w w' := by
  obtain ⟨u, n, t, m, p, ks, h, c⟩ := x
  dsimp only
  have hql := World.block_lt_of_cell? _ _ hq
  by_cases e : h = y
  · subst e
    rw [decide_eq_true rfl]
    go_enter Tryz.func90, Tryz.ntmps90
    go_wp2
    go_ret
    exact ⟨rfl, (Below.refl _ _).alloc (Nat.le_refl _) _⟩
  · rw [decide_eq_false e]
    have e2 : (h == y) = false := by simpa using e
    go_enter Tryz.func90, Tryz.ntmps90
    go_wp2
    go_ret
    exact ⟨rfl, (Below.refl _ _).alloc (Nat.le_refl _) _⟩

/-- The place of the node whose Host is x; -1: there is none. -/
def rootE (S : List Nd) (x : Int) : Int := if x = -1 then -1 else (match S.findIdx? fun n => decide (n.h = x) with | some k => (k : Int) | none => -1)

theorem rootE_some {S : List Nd} {x : Int} {k : Nat} (hx : x ≠ -1) (hk : k < S.length) (h : (nd S k).h = x) (hf : ∀ i, i < k → (nd S i).h ≠ x) : rootE S x = k := by
  unfold rootE
  rw [if_neg hx, show S.findIdx? (fun n => decide (n.h = x)) = some k from List.findIdx?_eq_some_iff_getElem.2 ⟨hk, by rw [← nd_elem hk]; exact decide_eq_true h, fun j hj => by
    have := hf j hj
    rw [nd_elem (by omega)] at this
    simpa using this⟩]
theorem rootE_none {S : List Nd} {x : Int} (h : ∀ i, i < S.length → (nd S i).h ≠ x) : rootE S x = -1 := by
  unfold rootE
  by_cases hx : x = -1
  · rw [if_pos hx]
  rw [if_neg hx, show S.findIdx? (fun n => decide (n.h = x)) = none from List.findIdx?_eq_none_iff.2 (fun y hy => by
    obtain ⟨i, hi, rfl⟩ := List.getElem_of_mem hy
    have := h i hi
    rw [nd_elem hi] at this
    simpa using this)]
theorem rootE_host {S : List Nd} {x : Int} (hx : x ≠ -1) : decide (rootE S x = -1) = !hostB S x := by
  cases hb : hostB S x with
  | false => rw [rootE_none (hostB_false.1 hb)]; rfl
  | true =>
    have hne : rootE S x ≠ -1 := by
      intro h
      unfold rootE at h
      rw [if_neg hx] at h
      split at h
      · omega
      · next hn =>
        have := List.findIdx?_eq_none_iff.1 hn
        unfold hostB at hb
        obtain ⟨y, hy, hp⟩ := List.any_eq_true.1 hb
        rw [this y hy] at hp
        cases hp
    rw [decide_eq_false hne]; rfl

set_option maxHeartbeats 800000 in
theorem rootOf_any (a : Option Addr) (c : Nat) (S : List Nd) (x : Int) (w : World) (hN : S.length ≤ 9223372036854775807) (hS : NdsAt w a S) :
    Calls Tryz.prog 72 #[.agg #[.slice a S.length c], .int .i64 x] w fun e w' => e = .returned (.int .i64 (rootE S x)) ∧ Below w.heap.size w w' := by
  have HS : Hid (NdsAt w a S) := hS
  by_cases hx : x = -1
  · have hr : rootE S x = -1 := by unfold rootE; rw [if_pos hx]
    rw [hr]
    subst hx
    clear hS hr
    generalize S.length = n at *
    go_enter Tryz.func72, Tryz.ntmps72
    go_wp2
    go_ret
    exact ⟨rfl, ((Below.refl _ _).alloc (Nat.le_refl _) _).alloc (by simp) _⟩
  · have hT : ∀ w1 : World, w1.cell? ⟨w.heap.size + 1, 0, none⟩ = some (.int .i64 x) → TellsN 90 #[.pointer (some ⟨w.heap.size + 1, 0, none⟩)] (fun n => decide (n.h = x)) w1 := fun w1 h1 y k w2 hb2 =>
      rootOf1_any y k (w.heap.size + 1) x w2 ((hb2.cell (World.block_lt_of_cell? w1 _ h1)).trans h1)
    have D : Hid (∀ (W : World), NdsAt W a S → W.cell? ⟨w.heap.size + 1, 0, none⟩ = some (.int .i64 x) → Calls _ _ _ _ _) := fun W h1 h2 => indexNd_any 90 #[.pointer (some ⟨w.heap.size + 1, 0, none⟩)] (fun n => decide (n.h = x)) a c S W hN h1 (enters_of Tryz.func90 (by kernel_rfl) rfl) (hT W h2)
    have H1 : Hid (∀ k, k < S.length → decide ((nd S k).h = x) = true → (∀ i, i < k → decide ((nd S i).h = x) = false) → rootE S x = k) := fun k hk h hf => rootE_some hx hk (of_decide_eq_true h) (fun i hi => of_decide_eq_false (hf i hi))
    have H2 : Hid ((∀ i, i < S.length → decide ((nd S i).h = x) = false) → rootE S x = -1) := fun h => rootE_none (fun i hi => of_decide_eq_false (h i hi))
    have hx2 : (x == -1) = false := by simpa using hx
    clear hS hT
    go_enter Tryz.func72, Tryz.ntmps72
    go_wp2_with (first
      | (go_at_call 69; refine (D.out _ (HS.out.below (((Below.refl _ _).alloc (Nat.le_refl _) _).alloc (by simp) _)) (by go_simp)).mono ?_; rintro e w1 ⟨r, rfl, hb1, hr⟩)
      | go_in)
    go_ret
    refine ⟨?_, (((Below.refl _ _).alloc (Nat.le_refl _) _).alloc (by simp) _).trans (hb1.mono (by simp; omega))⟩
    rcases hr with ⟨rfl, hall⟩ | ⟨k, hk, rfl, hp, hf⟩
    · rw [H2.out hall]; rfl
    · rw [H1.out k hk hp hf]; rfl

set_option maxHeartbeats 800000 in
/-- IsHost, of a place (None is nobody's Host). -/
theorem isHost_any (a : Option Addr) (c : Nat) (S : List Nd) (x : Int) (w : World) (hN : S.length ≤ 9223372036854775807) (hS : NdsAt w a S) (hx : x ≠ -1) :
    Calls Tryz.prog 50 #[.agg #[.slice a S.length c], .int .i64 x] w fun e w' => e = .returned (.bool (hostB S x)) ∧ Below w.heap.size w w' := by
  have D : Hid (∀ (W : World), NdsAt W a S → Calls _ _ _ _ _) := fun W hW => rootOf_any a c S x W hN hW
  have HS : Hid (NdsAt w a S) := hS
  have hr := rootE_host (S := S) hx
  clear hS hx
  generalize S.length = n at *
  generalize rootE S x = r at *
  cases hb : hostB S x with
  | true =>
    rw [hb] at hr
    have hr2 : (r == -1) = false := by simpa using hr
    clear hr hb
    go_enter Tryz.func50, Tryz.ntmps50
    go_wp2_with (go_at_call 72; refine (D.out _ (HS.out.below ((Below.refl _ _).alloc (Nat.le_refl _) _))).mono ?_; rintro e w1 ⟨rfl, hb1⟩)
    go_ret
    refine ⟨?_, ((Below.refl _ _).alloc (Nat.le_refl _) _).trans (hb1.mono (by simp))⟩
    show Ending.returned (.bool (r != -1)) = _
    simp [bne, hr2]
  | false =>
    rw [hb] at hr
    have hr2 : r = -1 := by simpa using hr
    subst hr2
    clear hr hb
    go_enter Tryz.func50, Tryz.ntmps50
    go_wp2_with (go_at_call 72; refine (D.out _ (HS.out.below ((Below.refl _ _).alloc (Nat.le_refl _) _))).mono ?_; rintro e w1 ⟨rfl, hb1⟩)
    go_ret
    exact ⟨rfl, ((Below.refl _ _).alloc (Nat.le_refl _) _).trans (hb1.mono (by simp))⟩

theorem firstFree_none (a : Option Addr) (c : Nat) (S : List Nd) (w : World) (hn : S.length ≤ 9223372036854775807) (hS : NdsAt w a S) (hall : S.any freeB = false) :
    Calls Tryz.prog 69 #[.slice a S.length c, .func (.func 70) #[] #[]] w fun e w' => e = .returned (.int .i64 (-1)) ∧ Below w.heap.size w w' :=
  (indexNd_any 70 #[] freeB a c S w hn hS (enters_of Tryz.func70 (by kernel_rfl) rfl) (fun x k w1 _ => free_place x k w1)).mono (fun e w' ⟨r, e1, hb, hr⟩ => by
    rcases hr with ⟨rfl, _⟩ | ⟨k, hk, _, hp, _⟩
    · exact ⟨e1, hb⟩
    · have := List.any_eq_false.1 hall (nd S k) (by rw [nd_elem hk]; exact List.getElem_mem hk)
      exact absurd hp this)

/-- What Make says is wrong. -/
def makeE (S : List Nd) (t : Int) : Int := if checkE S = 0 then (if 0 ≤ t ∧ t ≤ 99 then (if S.any freeB then 0 else 1) else 2) else checkE S

theorem first_free {S : List Nd} (h : S.any freeB = true) : ∃ k, k < S.length ∧ freeB (nd S k) = true ∧ ∀ i, i < k → freeB (nd S i) = false := by
  obtain ⟨x, hx, hf⟩ := List.any_eq_true.1 h
  obtain ⟨i, hi, rfl⟩ := List.getElem_of_mem hx
  rw [← nd_elem hi] at hf
  clear hx h
  induction i using Nat.strongRecOn with
  | ind i ih =>
    by_cases hex : ∃ j, j < i ∧ freeB (nd S j) = true
    · obtain ⟨j, hj, hf2⟩ := hex
      exact ih j hj (by omega) hf2
    · refine ⟨i, hi, hf, fun j hj => ?_⟩
      cases hq : freeB (nd S j) with
      | false => rfl
      | true => exact absurd ⟨j, hj, hq⟩ hex

set_option maxHeartbeats 1000000 in
theorem make_err (a : Option Addr) (c : Nat) (S : List Nd) (t E : Int) (w : World) (hN : S.length ≤ 9223372036854775807) (hB : Big S) (hS : NdsAt w a S) (hE : makeE S t = E) (hE0 : E ≠ 0) :
    Calls Tryz.prog 46 #[.agg #[.slice a S.length c], .int .i64 t] w fun e w' => e = .returned (.tuple #[.agg #[.slice none 0 0], .agg #[.int .i64 0, .int .i64 0], .int .i64 E]) ∧ Below w.heap.size w w' := by
  have d0 := fun W hW => check_any a c S W hN hB hW
  have HS : Hid (NdsAt w a S) := hS
  unfold makeE at hE
  by_cases hc : checkE S = 0
  · rw [if_pos hc] at hE
    rw [hc] at d0
    have D0 : Hid _ := d0
    by_cases ht : 0 ≤ t ∧ t ≤ 99
    · rw [if_pos ht] at hE
      cases hf : S.any freeB with
      | true => rw [hf] at hE; exact absurd hE.symm hE0
      | false =>
        rw [hf, if_neg (by simp)] at hE
        have DF : Hid (∀ W, NdsAt W a S → Calls _ _ _ _ _) := fun W hW => firstFree_none a c S W hN hW hf
        obtain ⟨ht0, ht1⟩ := ht
        subst hE
        clear hS d0 hB hc hf hE0
        generalize S.length = n at *
        go_enter Tryz.func46, Tryz.ntmps46
        go_wp2_with (go_at_call 15; refine (D0.out _ (HS.out.below (three_below _ _ _ _))).mono ?_; rintro e w0 ⟨rfl, hb0⟩; simp only [World.size_alloc] at hb0; obtain ⟨l0, l1, l2, l3, z1, z2, z3⟩ := make_low hb0; have hB0 : Below w.heap.size w w0 := (three_below _ _ _ _).trans (hb0.mono (by omega)))
        go_wp2_with (go_at_call 22; refine (within_yes _ _ _ _ (by omega) (by omega)).mono ?_; rintro e w' ⟨rfl, rfl⟩)
        refine (DF.out _ (HS.out.below hB0)).mono ?_
        rintro e w1 ⟨rfl, hb1'⟩
        have hs0 := hb0.size
        simp only [World.size_alloc] at hs0
        have hb1 := hb0.trans (hb1'.mono hs0)
        have hB1 : Below w.heap.size w w1 := (three_below _ _ _ _).trans (hb1.mono (by omega))
        clear l0 l1 l2 l3 z1 z2 z3 hb0 hb1' hB0
        obtain ⟨l0, l1, l2, l3, z1, z2, z3⟩ := make_low hb1
        go_wp2
        refine bodyPost_ret (v := .tuple #[.agg #[.slice none 0 0], .agg #[.int .i64 0, .int .i64 0], .int .i64 1]) (by simp [results, Tryz.results46, go_sem, l1, l2, l3]) rfl ⟨rfl, ?_⟩
        first | exact ((hB1.setCell (by simp) _).setCell (by simp; omega) _).setCell (by simp; omega) _ | exact (((hB1.setCell (by simp) _).setCell (by simp; omega) _).setCell (by simp; omega) _).drew
    · rw [if_neg ht] at hE
      have ht' : t < 0 ∨ 99 < t := by omega
      subst hE
      clear hS d0 hB hc ht hE0
      generalize S.length = n at *
      go_enter Tryz.func46, Tryz.ntmps46
      go_wp2_with (go_at_call 15; refine (D0.out _ (HS.out.below (three_below _ _ _ _))).mono ?_; rintro e w0 ⟨rfl, hb0⟩; simp only [World.size_alloc] at hb0; obtain ⟨l0, l1, l2, l3, z1, z2, z3⟩ := make_low hb0; have hB0 : Below w.heap.size w w0 := (three_below _ _ _ _).trans (hb0.mono (by omega)))
      go_wp2_with (go_at_call 22; refine (within_no _ _ _ _ ht').mono ?_; rintro e w' ⟨rfl, rfl⟩)
      refine bodyPost_ret (v := .tuple #[.agg #[.slice none 0 0], .agg #[.int .i64 0, .int .i64 0], .int .i64 2]) (by simp [results, Tryz.results46, go_sem, l1, l2, l3]) rfl ⟨rfl, ?_⟩
      first | exact ((hB0.setCell (by simp) _).setCell (by simp; omega) _).setCell (by simp; omega) _ | exact (((hB0.setCell (by simp) _).setCell (by simp; omega) _).setCell (by simp; omega) _).drew
  · rw [if_neg hc] at hE
    rw [hE] at d0
    have D0 : Hid _ := d0
    have hz : (E == 0) = false := by simp [hE0]
    clear hS d0 hE hB hc
    generalize S.length = n at *
    go_enter Tryz.func46, Tryz.ntmps46
    go_wp2_with (go_at_call 15; refine (D0.out _ (HS.out.below (three_below _ _ _ _))).mono ?_; rintro e w0 ⟨rfl, hb0⟩; simp only [World.size_alloc] at hb0; obtain ⟨l0, l1, l2, l3, z1, z2, z3⟩ := make_low hb0; have hB0 : Below w.heap.size w w0 := (three_below _ _ _ _).trans (hb0.mono (by omega)))
    refine bodyPost_ret (v := .tuple #[.agg #[.slice none 0 0], .agg #[.int .i64 0, .int .i64 0], .int .i64 E]) (by simp [results, Tryz.results46, go_sem, l1, l2, l3]) rfl ⟨rfl, ?_⟩
    first | exact ((hB0.setCell (by simp) _).setCell (by simp; omega) _).setCell (by simp; omega) _ | exact (((hB0.setCell (by simp) _).setCell (by simp; omega) _).setCell (by simp; omega) _).drew
end Go.Proofs.YtfaaijoneaompaaGreat

namespace Go.Proofs.YtfaaijoneaompaaGreat
open Go.RowKit

theorem WF.kid_deep {S : List Nd} (h : WF S) {f p : Nat} (hp : p < S.length) (hD : Deep S (f + 1) p) {x : Int} (hx : x ∈ (nd S p).ks) :
    ∃ k : Nat, x = k ∧ k < S.length ∧ (nd S k).u = true ∧ (nd S k).p = p ∧ rightUnder (nd S k) = p ∧ Deep S f k := by
  obtain ⟨k, rfl, h1, h2, h3, h4⟩ := h.kid hp hx
  have := (hD (k : Int) hx).2
  rw [Int.toNat_natCast] at this
  exact ⟨k, rfl, h1, h2, h3, h4, this⟩

theorem mem_order {S : List Nd} (h : WF S) : ∀ {f p : Nat}, p < S.length → Deep S f p → ∀ x ∈ orderF S f p, ∃ q : Nat, x = q ∧ q < S.length ∧ (q = p ∨ (nd S q).u = true) ∧ ∃ j, j ≤ f ∧ Up S j q p
  | 0, p, hp, _, x, hx => by
    have : x = (p : Int) := by simpa [orderF] using hx
    exact ⟨p, this, hp, Or.inl rfl, 0, Nat.le_refl _, rfl⟩
  | f + 1, p, hp, hD, x, hx => by
    simp only [orderF, List.mem_cons, List.mem_flatMap] at hx
    rcases hx with rfl | ⟨k, hk, hx⟩
    · exact ⟨p, rfl, hp, Or.inl rfl, 0, by omega, rfl⟩
    · obtain ⟨k, rfl, h1, h2, h3, h4, h5⟩ := h.kid_deep hp hD hk
      rw [Int.toNat_natCast] at hx
      obtain ⟨q, e, hq, hu, j, hj, hup⟩ := mem_order h h1 h5 x hx
      refine ⟨q, e, hq, Or.inr ?_, j + 1, by omega, hup.trans (WF.up_one hp h4)⟩
      rcases hu with rfl | hu
      · exact h2
      · exact hu

theorem nodup_flat {α β : Type} (g : α → List β) : ∀ (ks : List α), ks.Nodup → (∀ k ∈ ks, (g k).Nodup) → (∀ k ∈ ks, ∀ k' ∈ ks, k ≠ k' → ∀ x ∈ g k, x ∉ g k') → (ks.flatMap g).Nodup
  | [], _, _, _ => by simp
  | k :: ks, hn, hg, hd => by
    rw [List.flatMap_cons, List.nodup_append]
    obtain ⟨h1, h2⟩ := List.nodup_cons.1 hn
    refine ⟨hg k (by simp), nodup_flat g ks h2 (fun k' hk' => hg k' (by simp [hk'])) (fun a ha b hb => hd a (by simp [ha]) b (by simp [hb])), fun x hx y hy e => ?_⟩
    obtain ⟨k', hk', hy⟩ := List.mem_flatMap.1 hy
    exact hd k (by simp) k' (by simp [hk']) (fun e => h1 (by rw [e]; exact hk')) x hx (by rw [e]; exact hy)

theorem cntU_mono (S : List Nd) (j : Nat) : ∀ {k k' : Nat}, k ≤ k' → k' ≤ S.length → cntU S k j ≤ cntU S k' j := by
  intro k k' hk
  induction hk with
  | refl => intro _; exact Nat.le_refl _
  | step _ ih =>
    intro h
    rw [cntU_succ S _ j (by omega)]
    have := ih (by omega)
    omega

theorem WF.kids_nodup {S : List Nd} (h : WF S) {i : Nat} (hi : i < S.length) : (nd S i).ks.Nodup := by
  rw [List.nodup_iff_count]
  intro x
  by_cases hx : x ∈ (nd S i).ks
  · obtain ⟨k, rfl, hk, _⟩ := h.kid hi hx
    have h1 := (h.kids.2 k hk).1
    have h2 := cntU_succ S i k hi
    have h3 := cntU_mono S k (k := i + 1) (k' := S.length) (by omega) (Nat.le_refl _)
    omega
  · rw [List.count_eq_zero.2 hx]; omega

/-- Who has a parent stands in its children. -/
theorem WF.in_kids {S : List Nd} (h : WF S) {k : Nat} (hk : k < S.length) {y : Nat} (hp : (nd S k).p = y) : y < S.length ∧ (k : Int) ∈ (nd S y).ks := by
  have hc := (h.kids.2 k hk).2 (by omega)
  unfold cntU at hc
  rw [List.take_length] at hc
  have hm : (k : Int) ∈ S.flatMap Nd.ks := by
    by_cases hm : (k : Int) ∈ S.flatMap Nd.ks
    · exact hm
    · exact absurd (List.count_eq_zero.2 hm) hc
  obtain ⟨x, hx, hkx⟩ := List.mem_flatMap.1 hm
  obtain ⟨i, hi, rfl⟩ := List.getElem_of_mem hx
  rw [← nd_elem hi] at hkx
  obtain ⟨k', e, _, _, h3, _⟩ := h.kid hi hkx
  have : k' = k := by omega
  subst this
  have : y = i := by omega
  subst this
  exact ⟨hi, hkx⟩

theorem nodup_order {S : List Nd} (h : WF S) : ∀ {f p : Nat}, p < S.length → f ≤ S.length → Deep S f p → (orderF S f p).Nodup
  | 0, p, _, _, _ => by simp [orderF]
  | f + 1, p, hp, hf, hD => by
    simp only [orderF]
    rw [List.nodup_cons]
    refine ⟨fun hm => ?_, nodup_flat _ _ (h.kids_nodup hp) (fun x hx => ?_) (fun x hx y hy hne z hz hz' => ?_)⟩
    · obtain ⟨x, hx, hm⟩ := List.mem_flatMap.1 hm
      obtain ⟨k, rfl, h1, h2, h3, h4, h5⟩ := h.kid_deep hp hD hx
      rw [Int.toNat_natCast] at hm
      obtain ⟨q, e, hq, _, j, hj, hup⟩ := mem_order h h1 h5 _ hm
      have : q = p := by omega
      subst this
      exact h.no_ring hp (j := j + 1) (by omega) (by omega) (hup.trans (WF.up_one hp h4))
    · obtain ⟨k, rfl, h1, h2, h3, h4, h5⟩ := h.kid_deep hp hD hx
      rw [Int.toNat_natCast]
      exact nodup_order h h1 (by omega) h5
    · obtain ⟨k, rfl, h1, h2, h3, h4, h5⟩ := h.kid_deep hp hD hx
      obtain ⟨k', rfl, h1', h2', h3', h4', h5'⟩ := h.kid_deep hp hD hy
      rw [Int.toNat_natCast] at hz hz'
      obtain ⟨q, e, hq, _, j, hj, hup⟩ := mem_order h h1 h5 _ hz
      obtain ⟨q', e', hq', _, j', hj', hup'⟩ := mem_order h h1' h5' _ hz'
      have : q = q' := by omega
      subst this
      have u1 := hup.trans (WF.up_one hp h4)
      have u2 := hup'.trans (WF.up_one hp h4')
      have hjj : j = j' := by
        rcases Nat.lt_trichotomy j j' with hlt | e | hlt
        · obtain ⟨y, v1, v2⟩ := Up.split (i := j + 1) (j := j' - j) (by rw [show j + 1 + (j' - j) = j' + 1 by omega]; exact u2)
          have := Up.det v1 u1
          subst this
          exact absurd v2 (h.no_ring hp (by omega) (by omega))
        · exact e
        · obtain ⟨y, v1, v2⟩ := Up.split (i := j' + 1) (j := j - j') (by rw [show j' + 1 + (j - j') = j + 1 by omega]; exact u1)
          have := Up.det v1 u2
          subst this
          exact absurd v2 (h.no_ring hp (by omega) (by omega))
      subst hjj
      exact hne (by rw [Up.det hup hup'])

theorem order_le {S : List Nd} (h : WF S) {p : Nat} (hp : p < S.length) : (orderF S S.length p).length ≤ S.length := by
  have h1 := nodup_order h hp (Nat.le_refl _) (h.deep_all hp)
  have := h1.length_le_of_subset (l₂ := (List.range S.length).map (fun i : Nat => (i : Int))) (fun x hx => by
    obtain ⟨q, rfl, hq, _⟩ := mem_order h hp (h.deep_all hp) x hx
    exact List.mem_map.2 ⟨q, List.mem_range.2 hq, rfl⟩)
  simpa using this

/-- Each stands behind its parent. -/
def Par (S : List Nd) : List Int → List Int → Prop
  | _, [] => True
  | seen, x :: r => (nd S x.toNat).p ∈ seen ∧ Par S (seen ++ [x]) r

theorem Par.append {S : List Nd} : ∀ {a b seen : List Int}, Par S seen a → Par S (seen ++ a) b → Par S seen (a ++ b)
  | [], b, seen, _, hb => by simpa using hb
  | x :: a, b, seen, ⟨h1, h2⟩, hb => ⟨h1, Par.append h2 (by simpa using hb)⟩

theorem Par.flat {S : List Nd} {p : Int} (g : Int → List Int) : ∀ (ks seen : List Int), p ∈ seen → (∀ k ∈ ks, ∀ seen', p ∈ seen' → Par S seen' (g k)) → Par S seen (ks.flatMap g)
  | [], _, _, _ => trivial
  | k :: ks, seen, hp, hg => by
    rw [List.flatMap_cons]
    exact Par.append (hg k (by simp) seen hp) (Par.flat g ks _ (by simp [hp]) (fun k' hk' => hg k' (by simp [hk'])))

theorem par_order {S : List Nd} (h : WF S) : ∀ {f p : Nat} {seen : List Int}, p < S.length → Deep S f p → (nd S p).p ∈ seen → Par S seen (orderF S f p)
  | 0, p, seen, _, _, hm => ⟨by simpa using hm, trivial⟩
  | f + 1, p, seen, hp, hD, hm => by
    refine ⟨by simpa using hm, Par.flat (p := (p : Int)) _ _ _ (by simp) (fun x hx seen' hs => ?_)⟩
    obtain ⟨k, rfl, h1, h2, h3, h4, h5⟩ := h.kid_deep hp hD hx
    rw [Int.toNat_natCast]
    exact par_order h h1 h5 (by rw [h3]; exact hs)

theorem par_root {S : List Nd} (h : WF S) {f p : Nat} (hp : p < S.length) (hD : Deep S f p) : ∃ r, orderF S f p = (p : Int) :: r ∧ Par S [(p : Int)] r := by
  cases f with
  | zero => exact ⟨[], rfl, trivial⟩
  | succ f =>
    refine ⟨_, rfl, Par.flat (p := (p : Int)) _ _ _ (by simp) (fun x hx seen' hs => ?_)⟩
    obtain ⟨k, rfl, h1, h2, h3, h4, h5⟩ := h.kid_deep hp hD hx
    rw [Int.toNat_natCast]
    exact par_order h h1 h5 (by rw [h3]; exact hs)

theorem Par.get {S : List Nd} : ∀ {r seen : List Int} {i : Nat}, Par S seen r → i < r.length → (nd S (r.getD i 0).toNat).p ∈ seen ++ r.take i
  | x :: r, seen, 0, ⟨h1, _⟩, _ => by simpa using h1
  | x :: r, seen, i + 1, ⟨_, h2⟩, hi => by
    have := Par.get h2 (i := i) (by simpa using hi)
    simpa using this

theorem kid_in {S : List Nd} (h : WF S) : ∀ {f p : Nat}, p < S.length → Deep S f p → ∀ y ∈ orderF S f p, ∀ k ∈ (nd S y.toNat).ks, k ∈ orderF S f p
  | 0, p, _, hD, y, hy, k, hk => by
    have : y = (p : Int) := by simpa [orderF] using hy
    subst this
    rw [Int.toNat_natCast, show (nd S p).ks = [] from hD] at hk
    cases hk
  | f + 1, p, hp, hD, y, hy, k, hk => by
    simp only [orderF, List.mem_cons, List.mem_flatMap] at hy ⊢
    right
    rcases hy with rfl | ⟨x, hx, hy⟩
    · rw [Int.toNat_natCast] at hk
      obtain ⟨k', rfl, h1, h2, h3, h4, h5⟩ := h.kid_deep hp hD hk
      refine ⟨_, hk, ?_⟩
      rw [Int.toNat_natCast]
      cases f <;> simp [orderF]
    · obtain ⟨k', rfl, h1, h2, h3, h4, h5⟩ := h.kid_deep hp hD hx
      rw [Int.toNat_natCast] at hy
      refine ⟨_, hx, ?_⟩
      rw [Int.toNat_natCast]
      exact kid_in h h1 h5 y hy k hk

def orderS (S : List Nd) (p : Nat) : List Int := orderF S S.length p
end Go.Proofs.YtfaaijoneaompaaGreat
