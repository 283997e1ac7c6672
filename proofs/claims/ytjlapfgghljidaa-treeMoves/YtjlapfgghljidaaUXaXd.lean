/-
  Searches among nodes with any closure; IsHost; Make where no node is made.
-/
import Derived.Test.YtjlapfgghljidaaUWbWdSrWfTm
namespace Go.Proofs.Ytjlapfgghljidaa
open Go.RowKit

/-- What is asked of a function value that tells yes or no of a node. -/
def TellsN (K : Nat) (caps : Array Value) (p : Nd → Bool) (w : World) : Prop :=
  ∀ (x : Nd) (k : Value) (w1 : World), Below w.heap.size w w1 → Calls Try.prog K (#[.agg #[.bool x.u, .int .i64 x.n, .int .i64 x.t, .int .i64 x.m, .int .i64 x.p, k, .int .i64 x.h, .bool x.c]] ++ caps) w1 fun e w2 => e = .returned (.bool (p x)) ∧ Below w1.heap.size w1 w2

set_option maxHeartbeats 800000 in
theorem indexNd_any (K : Nat) (caps : Array Value) (p : Nd → Bool) (a : Option Addr) (c : Nat) (S : List Nd) (w : World) (hbig : S.length ≤ 9223372036854775807) (hS : NdsAt w a S)
    (eg : ∀ args w, (callFunc K args).run Try.prog w = .ok (.enter K args) w) (hf : TellsN K caps p w) :
    Calls Try.prog 40 #[.slice a S.length c, .func (.func K) #[] caps] w fun e w' => ∃ r : Int, e = .returned (.int .i64 r) ∧ Below w.heap.size w w' ∧
      ((r = -1 ∧ ∀ i, i < S.length → p (nd S i) = false) ∨ (∃ k : Nat, k < S.length ∧ r = k ∧ p (nd S k) = true ∧ ∀ i, i < k → p (nd S i) = false)) := by
  have HS : Hid (NdsAt w a S) := hS
  have HF : Hid (TellsN K caps p w) := hf
  clear hS hf
  generalize hn : S.length = n at *
  have HN : Hid _ := hn
  clear hn
  go_enter Try.func40, Try.ntmps40
  go_wp2
  go_loopg [8] n (fun g s8 wr => ∃ k : Nat, k ≤ n ∧ n - k ≤ g ∧ s8 = .int .i64 k ∧ Below w.heap.size w wr ∧ Hid (∀ i, i < k → p (nd S i) = false))
  case atStart => exact ⟨0, by omega, by omega, rfl, Below.refl _ _, fun i hi => by omega⟩
  case round =>
    obtain ⟨k, hk, hg, rfl, hb, A⟩ := hrel
    by_cases hlt : k < n
    · have hlt2 : (k : Int) < (n : Int) := by omega
      obtain ⟨b, o, rfl, c0, c1, c2, c3, c4, ⟨ka, kc, c5, _⟩, c6, c7⟩ := (HS.out.below hb) k (by rw [HN.out]; exact hlt)
      have hcall := fun v => HF.out (nd S k) v wr hb
      cases hq : p (nd S k) with
      | true =>
        have HQ : Hid (p (nd S k) = true) := hq
        rw [hq] at hcall
        clear hq
        generalize hx : nd S k = x at hcall c0 c1 c2 c3 c4 c5 c6 c7
        clear hx
        go_wp2_with (go_at_fn K; refine (hcall _).mono ?_; rintro e w' ⟨rfl, hb2⟩)
        go_ret
        exact ⟨k, rfl, hb.trans (hb2.mono hb.size), Or.inr ⟨k, hlt, rfl, HQ.out, A.out⟩⟩
      | false =>
        have HQ : Hid (p (nd S k) = false) := hq
        rw [hq] at hcall
        clear hq
        generalize hx : nd S k = x at hcall c0 c1 c2 c3 c4 c5 c6 c7
        clear hx
        go_wp2_with (go_at_fn K; refine (hcall _).mono ?_; rintro e w' ⟨rfl, hb2⟩)
        go_roundg (n - (k + 1))
        case measure => omega
        case rel =>
          refine ⟨k + 1, by omega, by omega, by go_num, hb.trans (hb2.mono hb.size), (show Hid _ from fun i hi => ?_)⟩
          by_cases e : i = k
          · subst e
            exact HQ.out
          · exact A.out i (by omega)
    · have : k = n := by omega
      subst this
      go_wp2
      go_ret
      exact ⟨-1, rfl, hb, Or.inl ⟨rfl, A.out⟩⟩

def hostB (S : List Nd) (x : Int) : Bool := S.any fun n => decide (n.h = x)

theorem hostB_true {S : List Nd} {x : Int} {k : Nat} (hk : k < S.length) (h : (nd S k).h = x) : hostB S x = true :=
  List.any_eq_true.2 ⟨nd S k, by rw [nd_elem hk]; exact List.getElem_mem hk, decide_eq_true h⟩
theorem hostB_false {S : List Nd} {x : Int} : hostB S x = false ↔ ∀ i, i < S.length → (nd S i).h ≠ x := by
  unfold hostB
  rw [List.any_eq_false]
  constructor
  · intro H i hi e
    have := H (nd S i) (by rw [nd_elem hi]; exact List.getElem_mem hi)
    simp [e] at this
  · intro H y hy
    obtain ⟨i, hi, rfl⟩ := List.getElem_of_mem hy
    have := H i hi
    rw [nd_elem hi] at this
    simpa using this

set_option maxHeartbeats 400000 in
theorem rootOf1_any (x : Nd) (k : Value) (q : Nat) (y : Int) (w : World) (hq : w.cell? ⟨q, 0, none⟩ = some (.int .i64 y)) :
    Calls Try.prog 82 #[.agg #[.bool x.u, .int .i64 x.n, .int .i64 x.t, .int .i64 x.m, .int .i64 x.p, k, .int .i64 x.h, .bool x.c], .pointer (some ⟨q, 0, none⟩)] w fun e w' => e = .returned (.bool (decide (x.h = y))) ∧ Below w.heap.size w w' := by
  obtain ⟨u, n, t, m, p, ks, h, c⟩ := x
  dsimp only
  have hql := World.block_lt_of_cell? _ _ hq
  by_cases e : h = y
  · subst e
    rw [decide_eq_true rfl]
    go_enter Try.func82, Try.ntmps82
    go_wp2
    go_ret
    exact ⟨rfl, (Below.refl _ _).alloc (Nat.le_refl _) _⟩
  · rw [decide_eq_false e]
    have e2 : (h == y) = false := by simpa using e
    go_enter Try.func82, Try.ntmps82
    go_wp2
    go_ret
    exact ⟨rfl, (Below.refl _ _).alloc (Nat.le_refl _) _⟩

/-- The place of the node whose Host is x; -1: there is none. -/
def rootE (S : List Nd) (x : Int) : Int := if x = -1 then -1 else (match S.findIdx? fun n => decide (n.h = x) with | some k => (k : Int) | none => -1)

theorem rootE_some {S : List Nd} {x : Int} {k : Nat} (hx : x ≠ -1) (hk : k < S.length) (h : (nd S k).h = x) (hf : ∀ i, i < k → (nd S i).h ≠ x) : rootE S x = k := by
  unfold rootE
  rw [if_neg hx, show S.findIdx? (fun n => decide (n.h = x)) = some k from List.findIdx?_eq_some_iff_getElem.2 ⟨hk, by rw [← nd_elem hk]; exact decide_eq_true h, fun j hj => by
    have := hf j hj
    rw [nd_elem (by omega)] at this
    simpa using this⟩]
theorem rootE_none {S : List Nd} {x : Int} (h : ∀ i, i < S.length → (nd S i).h ≠ x) : rootE S x = -1 := by
  unfold rootE
  by_cases hx : x = -1
  · rw [if_pos hx]
  rw [if_neg hx, show S.findIdx? (fun n => decide (n.h = x)) = none from List.findIdx?_eq_none_iff.2 (fun y hy => by
    obtain ⟨i, hi, rfl⟩ := List.getElem_of_mem hy
    have := h i hi
    rw [nd_elem hi] at this
    simpa using this)]
theorem rootE_host {S : List Nd} {x : Int} (hx : x ≠ -1) : decide (rootE S x = -1) = !hostB S x := by
  cases hb : hostB S x with
  | false => rw [rootE_none (hostB_false.1 hb)]; rfl
  | true =>
    have hne : rootE S x ≠ -1 := by
      intro h
      unfold rootE at h
      rw [if_neg hx] at h
      split at h
      · omega
      · next hn =>
        have := List.findIdx?_eq_none_iff.1 hn
        unfold hostB at hb
        obtain ⟨y, hy, hp⟩ := List.any_eq_true.1 hb
        rw [this y hy] at hp
        cases hp
    rw [decide_eq_false hne]; rfl

set_option maxHeartbeats 800000 in
theorem rootOf_any (a : Option Addr) (c : Nat) (S : List Nd) (x : Int) (w : World) (hN : S.length ≤ 9223372036854775807) (hS : NdsAt w a S) :
    Calls Try.prog 71 #[.agg #[.slice a S.length c], .int .i64 x] w fun e w' => e = .returned (.int .i64 (rootE S x)) ∧ Below w.heap.size w w' := by
  have HS : Hid (NdsAt w a S) := hS
  by_cases hx : x = -1
  · have hr : rootE S x = -1 := by unfold rootE; rw [if_pos hx]
    rw [hr]
    subst hx
    clear hS hr
    generalize S.length = n at *
    go_enter Try.func71, Try.ntmps71
    go_wp2
    go_ret
    exact ⟨rfl, ((Below.refl _ _).alloc (Nat.le_refl _) _).alloc (by simp) _⟩
  · have hT : ∀ w1 : World, w1.cell? ⟨w.heap.size + 1, 0, none⟩ = some (.int .i64 x) → TellsN 82 #[.pointer (some ⟨w.heap.size + 1, 0, none⟩)] (fun n => decide (n.h = x)) w1 := fun w1 h1 y k w2 hb2 =>
      rootOf1_any y k (w.heap.size + 1) x w2 ((hb2.cell (World.block_lt_of_cell? w1 _ h1)).trans h1)
    have D : Hid (∀ (W : World), NdsAt W a S → W.cell? ⟨w.heap.size + 1, 0, none⟩ = some (.int .i64 x) → Calls _ _ _ _ _) := fun W h1 h2 => indexNd_any 82 #[.pointer (some ⟨w.heap.size + 1, 0, none⟩)] (fun n => decide (n.h = x)) a c S W hN h1 (enters_of Try.func82 (by kernel_rfl) rfl) (hT W h2)
    have H1 : Hid (∀ k, k < S.length → decide ((nd S k).h = x) = true → (∀ i, i < k → decide ((nd S i).h = x) = false) → rootE S x = k) := fun k hk h hf => rootE_some hx hk (of_decide_eq_true h) (fun i hi => of_decide_eq_false (hf i hi))
    have H2 : Hid ((∀ i, i < S.length → decide ((nd S i).h = x) = false) → rootE S x = -1) := fun h => rootE_none (fun i hi => of_decide_eq_false (h i hi))
    have hx2 : (x == -1) = false := by simpa using hx
    clear hS hT
    go_enter Try.func71, Try.ntmps71
    go_wp2_with (first
      | (go_at_call 40; refine (D.out _ (HS.out.below (((Below.refl _ _).alloc (Nat.le_refl _) _).alloc (by simp) _)) (by go_simp)).mono ?_; rintro e w1 ⟨r, rfl, hb1, hr⟩)
      | go_in)
    go_ret
    refine ⟨?_, (((Below.refl _ _).alloc (Nat.le_refl _) _).alloc (by simp) _).trans (hb1.mono (by simp; omega))⟩
    rcases hr with ⟨rfl, hall⟩ | ⟨k, hk, rfl, hp, hf⟩
    · rw [H2.out hall]; rfl
    · rw [H1.out k hk hp hf]; rfl

set_option maxHeartbeats 800000 in
/-- IsHost, of a place (None is nobody's Host). -/
theorem isHost_any (a : Option Addr) (c : Nat) (S : List Nd) (x : Int) (w : World) (hN : S.length ≤ 9223372036854775807) (hS : NdsAt w a S) (hx : x ≠ -1) :
    Calls Try.prog 45 #[.agg #[.slice a S.length c], .int .i64 x] w fun e w' => e = .returned (.bool (hostB S x)) ∧ Below w.heap.size w w' := by
  have D : Hid (∀ (W : World), NdsAt W a S → Calls _ _ _ _ _) := fun W hW => rootOf_any a c S x W hN hW
  have HS : Hid (NdsAt w a S) := hS
  have hr := rootE_host (S := S) hx
  clear hS hx
  generalize S.length = n at *
  generalize rootE S x = r at *
  cases hb : hostB S x with
  | true =>
    rw [hb] at hr
    have hr2 : (r == -1) = false := by simpa using hr
    clear hr hb
    go_enter Try.func45, Try.ntmps45
    go_wp2_with (go_at_call 71; refine (D.out _ (HS.out.below ((Below.refl _ _).alloc (Nat.le_refl _) _))).mono ?_; rintro e w1 ⟨rfl, hb1⟩)
    go_ret
    refine ⟨?_, ((Below.refl _ _).alloc (Nat.le_refl _) _).trans (hb1.mono (by simp))⟩
    show Ending.returned (.bool (r != -1)) = _
    simp [bne, hr2]
  | false =>
    rw [hb] at hr
    have hr2 : r = -1 := by simpa using hr
    subst hr2
    clear hr hb
    go_enter Try.func45, Try.ntmps45
    go_wp2_with (go_at_call 71; refine (D.out _ (HS.out.below ((Below.refl _ _).alloc (Nat.le_refl _) _))).mono ?_; rintro e w1 ⟨rfl, hb1⟩)
    go_ret
    exact ⟨rfl, ((Below.refl _ _).alloc (Nat.le_refl _) _).trans (hb1.mono (by simp))⟩

theorem firstFree_none (a : Option Addr) (c : Nat) (S : List Nd) (w : World) (hn : S.length ≤ 9223372036854775807) (hS : NdsAt w a S) (hall : S.any freeB = false) :
    Calls Try.prog 40 #[.slice a S.length c, .func (.func 41) #[] #[]] w fun e w' => e = .returned (.int .i64 (-1)) ∧ Below w.heap.size w w' :=
  (indexNd_any 41 #[] freeB a c S w hn hS (enters_of Try.func41 (by kernel_rfl) rfl) (fun x k w1 _ => free_place x k w1)).mono (fun e w' ⟨r, e1, hb, hr⟩ => by
    rcases hr with ⟨rfl, _⟩ | ⟨k, hk, _, hp, _⟩
    · exact ⟨e1, hb⟩
    · have := List.any_eq_false.1 hall (nd S k) (by rw [nd_elem hk]; exact List.getElem_mem hk)
      exact absurd hp this)

/-- What Make says is wrong. -/
def makeE (S : List Nd) (t : Int) : Int := if checkE S = 0 then (if 0 ≤ t ∧ t ≤ 99 then (if S.any freeB then 0 else 1) else 2) else checkE S

theorem first_free {S : List Nd} (h : S.any freeB = true) : ∃ k, k < S.length ∧ freeB (nd S k) = true ∧ ∀ i, i < k → freeB (nd S i) = false := by
  obtain ⟨x, hx, hf⟩ := List.any_eq_true.1 h
  obtain ⟨i, hi, rfl⟩ := List.getElem_of_mem hx
  rw [← nd_elem hi] at hf
  clear hx h
  induction i using Nat.strongRecOn with
  | ind i ih =>
    by_cases hex : ∃ j, j < i ∧ freeB (nd S j) = true
    · obtain ⟨j, hj, hf2⟩ := hex
      exact ih j hj (by omega) hf2
    · refine ⟨i, hi, hf, fun j hj => ?_⟩
      cases hq : freeB (nd S j) with
      | false => rfl
      | true => exact absurd ⟨j, hj, hq⟩ hex

set_option maxHeartbeats 1000000 in
theorem make_err (a : Option Addr) (c : Nat) (S : List Nd) (t E : Int) (w : World) (hN : S.length ≤ 9223372036854775807) (hB : Big S) (hS : NdsAt w a S) (hE : makeE S t = E) (hE0 : E ≠ 0) :
    Calls Try.prog 11 #[.agg #[.slice a S.length c], .int .i64 t] w fun e w' => e = .returned (.tuple #[.agg #[.slice none 0 0], .agg #[.int .i64 0, .int .i64 0], .int .i64 E]) ∧ Below w.heap.size w w' := by
  have d0 := fun W hW => check_any a c S W hN hB hW
  have HS : Hid (NdsAt w a S) := hS
  unfold makeE at hE
  by_cases hc : checkE S = 0
  · rw [if_pos hc] at hE
    rw [hc] at d0
    have D0 : Hid _ := d0
    by_cases ht : 0 ≤ t ∧ t ≤ 99
    · rw [if_pos ht] at hE
      cases hf : S.any freeB with
      | true => rw [hf] at hE; exact absurd hE.symm hE0
      | false =>
        rw [hf, if_neg (by simp)] at hE
        have DF : Hid (∀ W, NdsAt W a S → Calls _ _ _ _ _) := fun W hW => firstFree_none a c S W hN hW hf
        obtain ⟨ht0, ht1⟩ := ht
        subst hE
        clear hS d0 hB hc hf hE0
        generalize S.length = n at *
        go_enter Try.func11, Try.ntmps11
        go_wp2_with (go_at_call 18; refine (D0.out _ (HS.out.below (three_below _ _ _ _))).mono ?_; rintro e w0 ⟨rfl, hb0⟩; simp only [World.size_alloc] at hb0; obtain ⟨l0, l1, l2, l3, z1, z2, z3⟩ := make_low hb0; have hB0 : Below w.heap.size w w0 := (three_below _ _ _ _).trans (hb0.mono (by omega)))
        go_wp2_with (go_at_call 38; refine (within_yes _ _ _ _ (by omega) (by omega)).mono ?_; rintro e w' ⟨rfl, rfl⟩)
        refine (DF.out _ (HS.out.below hB0)).mono ?_
        rintro e w1 ⟨rfl, hb1'⟩
        have hs0 := hb0.size
        simp only [World.size_alloc] at hs0
        have hb1 := hb0.trans (hb1'.mono hs0)
        have hB1 : Below w.heap.size w w1 := (three_below _ _ _ _).trans (hb1.mono (by omega))
        clear l0 l1 l2 l3 z1 z2 z3 hb0 hb1' hB0
        obtain ⟨l0, l1, l2, l3, z1, z2, z3⟩ := make_low hb1
        go_wp2
        refine bodyPost_ret (v := .tuple #[.agg #[.slice none 0 0], .agg #[.int .i64 0, .int .i64 0], .int .i64 1]) (by simp [results, Try.results11, go_sem, l1, l2, l3]) rfl ⟨rfl, ?_⟩
        first | exact ((hB1.setCell (by simp) _).setCell (by simp; omega) _).setCell (by simp; omega) _ | exact (((hB1.setCell (by simp) _).setCell (by simp; omega) _).setCell (by simp; omega) _).drew
    · rw [if_neg ht] at hE
      have ht' : t < 0 ∨ 99 < t := by omega
      subst hE
      clear hS d0 hB hc ht hE0
      generalize S.length = n at *
      go_enter Try.func11, Try.ntmps11
      go_wp2_with (go_at_call 18; refine (D0.out _ (HS.out.below (three_below _ _ _ _))).mono ?_; rintro e w0 ⟨rfl, hb0⟩; simp only [World.size_alloc] at hb0; obtain ⟨l0, l1, l2, l3, z1, z2, z3⟩ := make_low hb0; have hB0 : Below w.heap.size w w0 := (three_below _ _ _ _).trans (hb0.mono (by omega)))
      go_wp2_with (go_at_call 38; refine (within_no _ _ _ _ ht').mono ?_; rintro e w' ⟨rfl, rfl⟩)
      refine bodyPost_ret (v := .tuple #[.agg #[.slice none 0 0], .agg #[.int .i64 0, .int .i64 0], .int .i64 2]) (by simp [results, Try.results11, go_sem, l1, l2, l3]) rfl ⟨rfl, ?_⟩
      first | exact ((hB0.setCell (by simp) _).setCell (by simp; omega) _).setCell (by simp; omega) _ | exact (((hB0.setCell (by simp) _).setCell (by simp; omega) _).setCell (by simp; omega) _).drew
  · rw [if_neg hc] at hE
    rw [hE] at d0
    have D0 : Hid _ := d0
    have hz : (E == 0) = false := by simp [hE0]
    clear hS d0 hE hB hc
    generalize S.length = n at *
    go_enter Try.func11, Try.ntmps11
    go_wp2_with (go_at_call 18; refine (D0.out _ (HS.out.below (three_below _ _ _ _))).mono ?_; rintro e w0 ⟨rfl, hb0⟩; simp only [World.size_alloc] at hb0; obtain ⟨l0, l1, l2, l3, z1, z2, z3⟩ := make_low hb0; have hB0 : Below w.heap.size w w0 := (three_below _ _ _ _).trans (hb0.mono (by omega)))
    refine bodyPost_ret (v := .tuple #[.agg #[.slice none 0 0], .agg #[.int .i64 0, .int .i64 0], .int .i64 E]) (by simp [results, Try.results11, go_sem, l1, l2, l3]) rfl ⟨rfl, ?_⟩
    first | exact ((hB0.setCell (by simp) _).setCell (by simp; omega) _).setCell (by simp; omega) _ | exact (((hB0.setCell (by simp) _).setCell (by simp; omega) _).setCell (by simp; omega) _).drew
end Go.Proofs.Ytjlapfgghljidaa

namespace Go.Proofs.Ytjlapfgghljidaa
open Go.RowKit

def freedNd (x : Nd) : Nd := ⟨false, x.n, 0, 0, -1, [], -1, false⟩

/-- Does nothing hang on the node? -/
def looseB (S : List Nd) (k : Nat) : Prop := rightUnder (nd S k) = -1 ∧ (nd S k).ks = [] ∧ hostB S k = false

/-- A store with the same Parents, Kids and Hosts, in which those are in use that something names. -/
theorem WF.like {S A : List Nd} (h : WF S) (hl : A.length = S.length) (hn : ∀ i, i < S.length → nodeE S.length (nd A i) = 0)
    (hs : ∀ i, i < S.length → (nd A i).p = (nd S i).p ∧ (nd A i).ks = (nd S i).ks ∧ (nd A i).h = (nd S i).h)
    (hu : ∀ i, i < S.length → (nd S i).u = true → (nd A i).u = true ∨ ∀ j, j < S.length → (i : Int) ∉ (nd S j).ks ∧ (nd S j).h ≠ i) : WF A := by
  refine ⟨by rw [hl]; exact h.small, fun i hi => by rw [hl] at hi ⊢; exact hn i hi, kidsOk_of (fun i hi => ?_) (fun i hi x hx => ?_) (fun j hj hjp => ?_), fun i hi => ?_, fun i hi => ?_⟩
  · rw [hl] at hi
    rw [(hs i hi).2.1]
    exact h.kids_nodup hi
  · rw [hl] at hi ⊢
    rw [(hs i hi).2.1] at hx
    obtain ⟨k, rfl, k1, k2, k3, _⟩ := h.kid hi hx
    refine ⟨k, rfl, k1, ?_, by rw [(hs k k1).1]; exact k3⟩
    rcases hu k k1 k2 with g | g
    · exact g
    · exact absurd hx (g i hi).1
  · rw [hl] at hj ⊢
    rw [(hs j hj).1] at hjp
    obtain ⟨i, i1, i2, _, i3, _⟩ := h.parent_place hj hjp
    exact ⟨i, i2, by rw [(hs i i2).2.1]; exact i3⟩
  · rw [hl] at hi
    intro hh
    rw [(hs i hi).2.2] at hh ⊢
    obtain ⟨g1, g2⟩ := h.hosts i hi hh
    have hb := (names_ks (names_of (h.node i hi))).2.1
    obtain ⟨q, hq⟩ : ∃ q : Nat, (nd S i).h = (q : Int) := ⟨(nd S i).h.toNat, by omega⟩
    refine ⟨?_, fun i' hi' => by rw [(hs i' (by omega)).2.2]; exact g2 i' hi'⟩
    rw [hq, Int.toNat_natCast] at g1 ⊢
    rcases hu q (by omega) g1 with g | g
    · exact g
    · exact absurd hq (g i hi).2
  · rw [hl] at hi
    cases hb : underB A i i with
    | false => rfl
    | true =>
      obtain ⟨j, j1, j2, j3⟩ := under_up (by rw [hl]; exact hi) hb
      rw [hl] at j2
      exact absurd (up_same hl (fun y hy z e => by unfold rightUnder at e ⊢; rw [(hs y hy).1, (hs y hy).2.2] at e; exact e) hi j3) (h.no_ring hi j1 j2)

theorem WF.unused {S : List Nd} (h : WF S) {k : Nat} (hk : k < S.length) (hu : (nd S k).u = false) : (nd S k).t = 0 ∧ (nd S k).m = 0 ∧ (nd S k).p = -1 ∧ (nd S k).ks = [] ∧ (nd S k).h = -1 ∧ (nd S k).c = false := by
  have hf := (node_parts (h.node k hk)).2.2
  unfold formB at hf
  rw [hu] at hf
  exact of_decide_eq_true hf

theorem WF.uses {S : List Nd} (h : WF S) {k : Nat} (hk : k < S.length) : 0 ≤ (nd S k).n ∧ (nd S k).n ≤ 1000000 ∧ ((nd S k).u = true → 1 ≤ (nd S k).n) := by
  obtain ⟨h1, _, h3⟩ := node_parts (h.node k hk)
  unfold rangeB at h1
  simp only [Bool.and_eq_true, decide_eq_true_eq] at h1
  refine ⟨h1.1.1, h1.1.2, fun hu => ?_⟩
  unfold formB at h3
  rw [if_pos hu] at h3
  by_cases e : (nd S k).n = 0
  · rw [if_pos e] at h3
    cases h3
  · have := h1.1.1
    omega

theorem free_parts {x : Nd} (h : freeB x = true) : x.u = false ∧ x.n < 1000000 := by
  unfold freeB at h
  simpa using h

theorem WF.make {S : List Nd} (h : WF S) {k : Nat} {t : Int} (hk : k < S.length) (hf : freeB (nd S k) = true) (ht0 : 0 ≤ t) (ht1 : t ≤ 99) : WF (S.set k (madeNd (nd S k) t)) := by
  obtain ⟨hu, hn⟩ := free_parts hf
  obtain ⟨q1, q2, q3, q4, q5, q6⟩ := h.unused hk hu
  obtain ⟨n0, n1, _⟩ := h.uses hk
  refine h.like (by simp) (fun i hi => ?_) (fun i hi => ?_) (fun i hi hiu => ?_)
  · rw [nd_set S k i _ hk]
    split
    · rename_i e
      subst e
      obtain ⟨r1, r2, r3⟩ := node_parts (h.node i hi)
      obtain ⟨m1, m2, m3⟩ := names_parts r2
      refine node_of ?_ (names_mk m1 m2 m3) ?_
      · unfold rangeB madeNd
        simp only [Bool.and_eq_true, decide_eq_true_eq]
        exact ⟨⟨by omega, by omega⟩, ⟨ht0, ht1⟩, by rw [q2]; omega, by rw [q2]; omega⟩
      · unfold formB madeNd
        simp only [if_true]
        rw [if_neg (by omega), if_pos q5, q6]
        rfl
    · exact h.node i hi
  · rw [nd_set S k i _ hk]
    split
    · rename_i e
      subst e
      exact ⟨rfl, rfl, rfl⟩
    · exact ⟨rfl, rfl, rfl⟩
  · rw [nd_set S k i _ hk]
    split
    · exact Or.inl rfl
    · exact Or.inl hiu

theorem loose_parts {S : List Nd} {k : Nat} (h : looseB S k) : (nd S k).p = -1 ∧ (nd S k).h = -1 ∧ (nd S k).ks = [] ∧ ∀ j, j < S.length → (nd S j).h ≠ k := by
  obtain ⟨h1, h2, h3⟩ := h
  unfold rightUnder at h1
  by_cases e : (nd S k).h = -1
  · rw [if_pos e] at h1
    exact ⟨h1, e, h2, hostB_false.1 h3⟩
  · rw [if_neg e] at h1
    exact absurd h1 e

theorem WF.free {S : List Nd} (h : WF S) {k : Nat} (hk : k < S.length) (hL : looseB S k) : WF (S.set k (freedNd (nd S k))) := by
  obtain ⟨hp, hh, hks, hH⟩ := loose_parts hL
  obtain ⟨n0, n1, _⟩ := h.uses hk
  refine h.like (by simp) (fun i hi => ?_) (fun i hi => ?_) (fun i hi hiu => ?_)
  · rw [nd_set S k i _ hk]
    split
    · rename_i e
      subst e
      refine node_of ?_ (names_mk ?_ ?_ (fun y hy => absurd hy (by simp [freedNd]))) ?_
      · unfold rangeB freedNd
        simp only [Bool.and_eq_true, decide_eq_true_eq]
        exact ⟨⟨n0, n1⟩, by omega, by omega⟩
      · unfold freedNd okPl
        exact decide_eq_true ⟨by dsimp only; omega, by dsimp only; omega⟩
      · unfold freedNd okPl
        exact decide_eq_true ⟨by dsimp only; omega, by dsimp only; omega⟩
      · unfold formB freedNd
        simp
    · exact h.node i hi
  · rw [nd_set S k i _ hk]
    split
    · rename_i e
      subst e
      exact ⟨hp.symm, hks.symm, hh.symm⟩
    · exact ⟨rfl, rfl, rfl⟩
  · by_cases e : i = k
    · subst e
      exact Or.inr (fun j hj => ⟨h.not_kid hp hj, hH j hj⟩)
    · rw [nd_set S k i _ hk, if_neg e]
      exact Or.inl hiu

theorem wf_new (n : Nat) (hn : n ≤ 24) : WF (List.replicate n unusedNd) := by
  have hnd : ∀ i, i < n → nd (List.replicate n unusedNd) i = unusedNd := fun i hi => nd_replicate n i _ hi
  have hl : (List.replicate n unusedNd).length = n := by simp
  refine ⟨by rw [hl]; exact hn, fun i hi => ?_, kidsOk_of (fun i hi => ?_) (fun i hi x hx => ?_) (fun j hj hjp => ?_), fun i hi => ?_, fun i hi => ?_⟩
  · rw [hl] at hi ⊢
    rw [hnd i hi]
    refine node_of (by decide) (names_mk ?_ ?_ (fun y hy => absurd hy (by simp [unusedNd]))) (by decide)
    · unfold unusedNd okPl
      exact decide_eq_true ⟨by dsimp only; omega, by dsimp only; omega⟩
    · unfold unusedNd okPl
      exact decide_eq_true ⟨by dsimp only; omega, by dsimp only; omega⟩
  · rw [hl] at hi
    rw [hnd i hi]
    exact List.nodup_nil
  · rw [hl] at hi
    rw [hnd i hi] at hx
    cases hx
  · rw [hl] at hj
    rw [hnd j hj] at hjp
    exact absurd rfl hjp
  · rw [hl] at hi
    intro hh
    rw [hnd i hi] at hh
    exact absurd rfl hh
  · cases hb : underB (List.replicate n unusedNd) i i with
    | false => rfl
    | true =>
      obtain ⟨j, j1, j2, j3⟩ := under_up hi hb
      obtain ⟨j', rfl⟩ : ∃ j', j = j' + 1 := ⟨j - 1, by omega⟩
      obtain ⟨z, _, hz, _⟩ := j3
      rw [hl] at hi
      rw [hnd i hi] at hz
      have : (-1 : Int) = (z : Int) := hz
      omega
end Go.Proofs.Ytjlapfgghljidaa
