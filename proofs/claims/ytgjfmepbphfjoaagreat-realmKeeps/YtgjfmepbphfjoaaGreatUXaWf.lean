/-
  Searches among nodes with any closure; IsHost; Make where no node is made.
-/
import Derived.Test.YtgjfmepbphfjoaaGreatUUbWbWdSr
import Derived.Test.YtgjfmepbphfjoaaGreatUWa
namespace Go.Proofs.YtgjfmepbphfjoaaGreat
open Go.RowKit

/-- What is asked of a function value that tells yes or no of a node. -/
def TellsN (K : Nat) (caps : Array Value) (p : Nd → Bool) (w : World) : Prop :=
  ∀ (x : Nd) (k : Value) (w1 : World), Below w.heap.size w w1 → Calls Tryz.prog K (#[.agg #[.bool x.u, .int .i64 x.n, .int .i64 x.t, .int .i64 x.m, .int .i64 x.p, k, .int .i64 x.h, .bool x.c]] ++ caps) w1 fun e w2 => e = .returned (.bool (p x)) ∧ Below w1.heap.size w1 w2

set_option maxHeartbeats 800000 in
theorem indexNd_any (K : Nat) (caps : Array Value) (p : Nd → Bool) (a : Option Addr) (c : Nat) (S : List Nd) (w : World) (hbig : S.length ≤ 9223372036854775807) (hS : NdsAt w a S)
    (eg : ∀ args w, (callFunc K args).run Tryz.prog w = .ok (.enter K args) w) (hf : TellsN K caps p w) :
    Calls Tryz.prog 122 #[.slice a S.length c, .func (.func K) #[] caps] w fun e w' => ∃ r : Int, e = .returned (.int .i64 r) ∧ Below w.heap.size w w' ∧
      ((r = -1 ∧ ∀ i, i < S.length → p (nd S i) = false) ∨ (∃ k : Nat, k < S.length ∧ r = k ∧ p (nd S k) = true ∧ ∀ i, i < k → p (nd S i) = false)) := by
  have HS : Hid (NdsAt w a S) := hS
  have HF : Hid (TellsN K caps p w) := hf
  clear hS hf
  generalize hn : S.length = n at *
  have HN : Hid _ := hn
  clear hn
  go_enter Tryz.func122, Tryz.ntmps122
  go_wp2
  go_loopg [8] n (fun g s8 wr => ∃ k : Nat, k ≤ n ∧ n - k ≤ g ∧ s8 = .int .i64 k ∧ Below w.heap.size w wr ∧ Hid (∀ i, i < k → p (nd S i) = false))
  case atStart => exact ⟨0, by omega, by omega, rfl, Below.refl _ _, fun i hi => by omega⟩
  case round =>
    obtain ⟨k, hk, hg, rfl, hb, A⟩ := hrel
    by_cases hlt : k < n
    · have hlt2 : (k : Int) < (n : Int) := by omega
      obtain ⟨b, o, rfl, c0, c1, c2, c3, c4, ⟨ka, kc, c5, _⟩, c6, c7⟩ := (HS.out.below hb) k (by rw [HN.out]; exact hlt)
      have hcall := fun v => HF.out (nd S k) v wr hb
      cases hq : p (nd S k) with
      | true =>
        have HQ : Hid (p (nd S k) = true) := hq
        rw [hq] at hcall
        clear hq
        generalize hx : nd S k = x at hcall c0 c1 c2 c3 c4 c5 c6 c7
        clear hx
        go_wp2_with (go_at_fn K; refine (hcall _).mono ?_; rintro e w' ⟨rfl, hb2⟩)
        go_ret
        exact ⟨k, rfl, hb.trans (hb2.mono hb.size), Or.inr ⟨k, hlt, rfl, HQ.out, A.out⟩⟩
      | false =>
        have HQ : Hid (p (nd S k) = false) := hq
        rw [hq] at hcall
        clear hq
        generalize hx : nd S k = x at hcall c0 c1 c2 c3 c4 c5 c6 c7
        clear hx
        go_wp2_with (go_at_fn K; refine (hcall _).mono ?_; rintro e w' ⟨rfl, hb2⟩)
        go_roundg (n - (k + 1))
        case measure => omega
        case rel =>
          refine ⟨k + 1, by omega, by omega, by go_num, hb.trans (hb2.mono hb.size), (show Hid _ from fun i hi => ?_)⟩
          by_cases e : i = k
          · subst e
            exact HQ.out
          · exact A.out i (by omega)
    · have : k = n := by omega
      subst this
      go_wp2
      go_ret
      exact ⟨-1, rfl, hb, Or.inl ⟨rfl, A.out⟩⟩

def hostB (S : List Nd) (x : Int) : Bool := S.any fun n => decide (n.h = x)

theorem hostB_true {S : List Nd} {x : Int} {k : Nat} (hk : k < S.length) (h : (nd S k).h = x) : hostB S x = true :=
  List.any_eq_true.2 ⟨nd S k, by rw [nd_elem hk]; exact List.getElem_mem hk, decide_eq_true h⟩
theorem hostB_false {S : List Nd} {x : Int} : hostB S x = false ↔ ∀ i, i < S.length → (nd S i).h ≠ x := by
  unfold hostB
  rw [List.any_eq_false]
  constructor
  · intro H i hi e
    have := H (nd S i) (by rw [nd_elem hi]; exact List.getElem_mem hi)
    simp [e] at this
  · intro H y hy
    obtain ⟨i, hi, rfl⟩ := List.getElem_of_mem hy
    have := H i hi
    rw [nd_elem hi] at this
    simpa using this

set_option maxHeartbeats 400000 in
theorem rootOf1_any (x : Nd) (k : Value) (q : Nat) (y : Int) (w : World) (hq : w.cell? ⟨q, 0, none⟩ = some (.int .i64 y)) :
    Calls Tryz.prog 136 #[.agg #[.bool x.u, .int .i64 x.n, .int .i64 x.t, .int .i64 x.m, .int .i64 x.p, k, .int .i64 x.h, .bool x.c], .pointer (some ⟨q, 0, none⟩)] w fun e w' => e = .returned (.bool (decide (x.h = y))) ∧ Below w.heap.size w w' := by
  obtain ⟨u, n, t, m, p, ks, h, c⟩ := x
  dsimp only
  have hql := World.block_lt_of_cell? _ _ hq
  by_cases e : h = y
  · subst e
    rw [decide_eq_true rfl]
    go_enter Tryz.func136, Tryz.ntmps136
    go_wp2
    go_ret
    exact ⟨rfl, (Below.refl _ _).alloc (Nat.le_refl _) _⟩
  · rw [decide_eq_false e]
    have e2 : (h == y) = false := by simpa using e
    go_enter Tryz.func136, Tryz.ntmps136
    go_wp2
    go_ret
    exact ⟨rfl, (Below.refl _ _).alloc (Nat.le_refl _) _⟩

/-- The place of the node whose Host is x; -1: there is none. -/
def rootE (S : List Nd) (x : Int) : Int := if x = -1 then -1 else (match S.findIdx? fun n => decide (n.h = x) with | some k => (k : Int) | none => -1)

theorem rootE_some {S : List Nd} {x : Int} {k : Nat} (hx : x ≠ -1) (hk : k < S.length) (h : (nd S k).h = x) (hf : ∀ i, i < k → (nd S i).h ≠ x) : rootE S x = k := by
  unfold rootE
  rw [if_neg hx, show S.findIdx? (fun n => decide (n.h = x)) = some k from List.findIdx?_eq_some_iff_getElem.2 ⟨hk, by rw [← nd_elem hk]; exact decide_eq_true h, fun j hj => by
    have := hf j hj
    rw [nd_elem (by omega)] at this
    simpa using this⟩]
theorem rootE_none {S : List Nd} {x : Int} (h : ∀ i, i < S.length → (nd S i).h ≠ x) : rootE S x = -1 := by
  unfold rootE
  by_cases hx : x = -1
  · rw [if_pos hx]
  rw [if_neg hx, show S.findIdx? (fun n => decide (n.h = x)) = none from List.findIdx?_eq_none_iff.2 (fun y hy => by
    obtain ⟨i, hi, rfl⟩ := List.getElem_of_mem hy
    have := h i hi
    rw [nd_elem hi] at this
    simpa using this)]
theorem rootE_host {S : List Nd} {x : Int} (hx : x ≠ -1) : decide (rootE S x = -1) = !hostB S x := by
  cases hb : hostB S x with
  | false => rw [rootE_none (hostB_false.1 hb)]; rfl
  | true =>
    have hne : rootE S x ≠ -1 := by
      intro h
      unfold rootE at h
      rw [if_neg hx] at h
      split at h
      · omega
      · next hn =>
        have := List.findIdx?_eq_none_iff.1 hn
        unfold hostB at hb
        obtain ⟨y, hy, hp⟩ := List.any_eq_true.1 hb
        rw [this y hy] at hp
        cases hp
    rw [decide_eq_false hne]; rfl

set_option maxHeartbeats 800000 in
theorem rootOf_any (a : Option Addr) (c : Nat) (S : List Nd) (x : Int) (w : World) (hN : S.length ≤ 9223372036854775807) (hS : NdsAt w a S) :
    Calls Tryz.prog 124 #[.agg #[.slice a S.length c], .int .i64 x] w fun e w' => e = .returned (.int .i64 (rootE S x)) ∧ Below w.heap.size w w' := by
  have HS : Hid (NdsAt w a S) := hS
  by_cases hx : x = -1
  · have hr : rootE S x = -1 := by unfold rootE; rw [if_pos hx]
    rw [hr]
    subst hx
    clear hS hr
    generalize S.length = n at *
    go_enter Tryz.func124, Tryz.ntmps124
    go_wp2
    go_ret
    exact ⟨rfl, ((Below.refl _ _).alloc (Nat.le_refl _) _).alloc (by simp) _⟩
  · have hT : ∀ w1 : World, w1.cell? ⟨w.heap.size + 1, 0, none⟩ = some (.int .i64 x) → TellsN 136 #[.pointer (some ⟨w.heap.size + 1, 0, none⟩)] (fun n => decide (n.h = x)) w1 := fun w1 h1 y k w2 hb2 =>
      rootOf1_any y k (w.heap.size + 1) x w2 ((hb2.cell (World.block_lt_of_cell? w1 _ h1)).trans h1)
    have D : Hid (∀ (W : World), NdsAt W a S → W.cell? ⟨w.heap.size + 1, 0, none⟩ = some (.int .i64 x) → Calls _ _ _ _ _) := fun W h1 h2 => indexNd_any 136 #[.pointer (some ⟨w.heap.size + 1, 0, none⟩)] (fun n => decide (n.h = x)) a c S W hN h1 (enters_of Tryz.func136 (by kernel_rfl) rfl) (hT W h2)
    have H1 : Hid (∀ k, k < S.length → decide ((nd S k).h = x) = true → (∀ i, i < k → decide ((nd S i).h = x) = false) → rootE S x = k) := fun k hk h hf => rootE_some hx hk (of_decide_eq_true h) (fun i hi => of_decide_eq_false (hf i hi))
    have H2 : Hid ((∀ i, i < S.length → decide ((nd S i).h = x) = false) → rootE S x = -1) := fun h => rootE_none (fun i hi => of_decide_eq_false (h i hi))
    have hx2 : (x == -1) = false := by simpa using hx
    clear hS hT
    go_enter Tryz.func124, Tryz.ntmps124
    go_wp2_with (first
      | (go_at_call 122; refine (D.out _ (HS.out.below (((Below.refl _ _).alloc (Nat.le_refl _) _).alloc (by simp) _)) (by go_simp)).mono ?_; rintro e w1 ⟨r, rfl, hb1, hr⟩)
      | go_in)
    go_ret
    refine ⟨?_, (((Below.refl _ _).alloc (Nat.le_refl _) _).alloc (by simp) _).trans (hb1.mono (by simp; omega))⟩
    rcases hr with ⟨rfl, hall⟩ | ⟨k, hk, rfl, hp, hf⟩
    · rw [H2.out hall]; rfl
    · rw [H1.out k hk hp hf]; rfl

set_option maxHeartbeats 800000 in
/-- IsHost, of a place (None is nobody's Host). -/
theorem isHost_any (a : Option Addr) (c : Nat) (S : List Nd) (x : Int) (w : World) (hN : S.length ≤ 9223372036854775807) (hS : NdsAt w a S) (hx : x ≠ -1) :
    Calls Tryz.prog 104 #[.agg #[.slice a S.length c], .int .i64 x] w fun e w' => e = .returned (.bool (hostB S x)) ∧ Below w.heap.size w w' := by
  have D : Hid (∀ (W : World), NdsAt W a S → Calls _ _ _ _ _) := fun W hW => rootOf_any a c S x W hN hW
  have HS : Hid (NdsAt w a S) := hS
  have hr := rootE_host (S := S) hx
  clear hS hx
  generalize S.length = n at *
  generalize rootE S x = r at *
  cases hb : hostB S x with
  | true =>
    rw [hb] at hr
    have hr2 : (r == -1) = false := by simpa using hr
    clear hr hb
    go_enter Tryz.func104, Tryz.ntmps104
    go_wp2_with (go_at_call 124; refine (D.out _ (HS.out.below ((Below.refl _ _).alloc (Nat.le_refl _) _))).mono ?_; rintro e w1 ⟨rfl, hb1⟩)
    go_ret
    refine ⟨?_, ((Below.refl _ _).alloc (Nat.le_refl _) _).trans (hb1.mono (by simp))⟩
    show Ending.returned (.bool (r != -1)) = _
    simp [bne, hr2]
  | false =>
    rw [hb] at hr
    have hr2 : r = -1 := by simpa using hr
    subst hr2
    clear hr hb
    go_enter Tryz.func104, Tryz.ntmps104
    go_wp2_with (go_at_call 124; refine (D.out _ (HS.out.below ((Below.refl _ _).alloc (Nat.le_refl _) _))).mono ?_; rintro e w1 ⟨rfl, hb1⟩)
    go_ret
    exact ⟨rfl, ((Below.refl _ _).alloc (Nat.le_refl _) _).trans (hb1.mono (by simp))⟩

theorem firstFree_none (a : Option Addr) (c : Nat) (S : List Nd) (w : World) (hn : S.length ≤ 9223372036854775807) (hS : NdsAt w a S) (hall : S.any freeB = false) :
    Calls Tryz.prog 122 #[.slice a S.length c, .func (.func 123) #[] #[]] w fun e w' => e = .returned (.int .i64 (-1)) ∧ Below w.heap.size w w' :=
  (indexNd_any 123 #[] freeB a c S w hn hS (enters_of Tryz.func123 (by kernel_rfl) rfl) (fun x k w1 _ => free_place x k w1)).mono (fun e w' ⟨r, e1, hb, hr⟩ => by
    rcases hr with ⟨rfl, _⟩ | ⟨k, hk, _, hp, _⟩
    · exact ⟨e1, hb⟩
    · have := List.any_eq_false.1 hall (nd S k) (by rw [nd_elem hk]; exact List.getElem_mem hk)
      exact absurd hp this)

/-- What Make says is wrong. -/
def makeE (S : List Nd) (t : Int) : Int := if checkE S = 0 then (if 0 ≤ t ∧ t ≤ 99 then (if S.any freeB then 0 else 1) else 2) else checkE S

theorem first_free {S : List Nd} (h : S.any freeB = true) : ∃ k, k < S.length ∧ freeB (nd S k) = true ∧ ∀ i, i < k → freeB (nd S i) = false := by
  obtain ⟨x, hx, hf⟩ := List.any_eq_true.1 h
  obtain ⟨i, hi, rfl⟩ := List.getElem_of_mem hx
  rw [← nd_elem hi] at hf
  clear hx h
  induction i using Nat.strongRecOn with
  | ind i ih =>
    by_cases hex : ∃ j, j < i ∧ freeB (nd S j) = true
    · obtain ⟨j, hj, hf2⟩ := hex
      exact ih j hj (by omega) hf2
    · refine ⟨i, hi, hf, fun j hj => ?_⟩
      cases hq : freeB (nd S j) with
      | false => rfl
      | true => exact absurd ⟨j, hj, hq⟩ hex

set_option maxHeartbeats 1000000 in
theorem make_err (a : Option Addr) (c : Nat) (S : List Nd) (t E : Int) (w : World) (hN : S.length ≤ 9223372036854775807) (hB : Big S) (hS : NdsAt w a S) (hE : makeE S t = E) (hE0 : E ≠ 0) :
    Calls Tryz.prog 101 #[.agg #[.slice a S.length c], .int .i64 t] w fun e w' => e = .returned (.tuple #[.agg #[.slice none 0 0], .agg #[.int .i64 0, .int .i64 0], .int .i64 E]) ∧ Below w.heap.size w w' := by
  have d0 := fun W hW => check_any a c S W hN hB hW
  have HS : Hid (NdsAt w a S) := hS
  unfold makeE at hE
  by_cases hc : checkE S = 0
  · rw [if_pos hc] at hE
    rw [hc] at d0
    have D0 : Hid _ := d0
    by_cases ht : 0 ≤ t ∧ t ≤ 99
    · rw [if_pos ht] at hE
      cases hf : S.any freeB with
      | true => rw [hf] at hE; exact absurd hE.symm hE0
      | false =>
        rw [hf, if_neg (by simp)] at hE
        have DF : Hid (∀ W, NdsAt W a S → Calls _ _ _ _ _) := fun W hW => firstFree_none a c S W hN hW hf
        obtain ⟨ht0, ht1⟩ := ht
        subst hE
        clear hS d0 hB hc hf hE0
        generalize S.length = n at *
        go_enter Tryz.func101, Tryz.ntmps101
        go_wp2_with (go_at_call 20; refine (D0.out _ (HS.out.below (three_below _ _ _ _))).mono ?_; rintro e w0 ⟨rfl, hb0⟩; simp only [World.size_alloc] at hb0; obtain ⟨l0, l1, l2, l3, z1, z2, z3⟩ := make_low hb0; have hB0 : Below w.heap.size w w0 := (three_below _ _ _ _).trans (hb0.mono (by omega)))
        go_wp2_with (go_at_call 54; refine (within_yes _ _ _ _ (by omega) (by omega)).mono ?_; rintro e w' ⟨rfl, rfl⟩)
        refine (DF.out _ (HS.out.below hB0)).mono ?_
        rintro e w1 ⟨rfl, hb1'⟩
        have hs0 := hb0.size
        simp only [World.size_alloc] at hs0
        have hb1 := hb0.trans (hb1'.mono hs0)
        have hB1 : Below w.heap.size w w1 := (three_below _ _ _ _).trans (hb1.mono (by omega))
        clear l0 l1 l2 l3 z1 z2 z3 hb0 hb1' hB0
        obtain ⟨l0, l1, l2, l3, z1, z2, z3⟩ := make_low hb1
        go_wp2
        refine bodyPost_ret (v := .tuple #[.agg #[.slice none 0 0], .agg #[.int .i64 0, .int .i64 0], .int .i64 1]) (by simp [results, Tryz.results101, go_sem, l1, l2, l3]) rfl ⟨rfl, ?_⟩
        first | exact ((hB1.setCell (by simp) _).setCell (by simp; omega) _).setCell (by simp; omega) _ | exact (((hB1.setCell (by simp) _).setCell (by simp; omega) _).setCell (by simp; omega) _).drew
    · rw [if_neg ht] at hE
      have ht' : t < 0 ∨ 99 < t := by omega
      subst hE
      clear hS d0 hB hc ht hE0
      generalize S.length = n at *
      go_enter Tryz.func101, Tryz.ntmps101
      go_wp2_with (go_at_call 20; refine (D0.out _ (HS.out.below (three_below _ _ _ _))).mono ?_; rintro e w0 ⟨rfl, hb0⟩; simp only [World.size_alloc] at hb0; obtain ⟨l0, l1, l2, l3, z1, z2, z3⟩ := make_low hb0; have hB0 : Below w.heap.size w w0 := (three_below _ _ _ _).trans (hb0.mono (by omega)))
      go_wp2_with (go_at_call 54; refine (within_no _ _ _ _ ht').mono ?_; rintro e w' ⟨rfl, rfl⟩)
      refine bodyPost_ret (v := .tuple #[.agg #[.slice none 0 0], .agg #[.int .i64 0, .int .i64 0], .int .i64 2]) (by simp [results, Tryz.results101, go_sem, l1, l2, l3]) rfl ⟨rfl, ?_⟩
      first | exact ((hB0.setCell (by simp) _).setCell (by simp; omega) _).setCell (by simp; omega) _ | exact (((hB0.setCell (by simp) _).setCell (by simp; omega) _).setCell (by simp; omega) _).drew
  · rw [if_neg hc] at hE
    rw [hE] at d0
    have D0 : Hid _ := d0
    have hz : (E == 0) = false := by simp [hE0]
    clear hS d0 hE hB hc
    generalize S.length = n at *
    go_enter Tryz.func101, Tryz.ntmps101
    go_wp2_with (go_at_call 20; refine (D0.out _ (HS.out.below (three_below _ _ _ _))).mono ?_; rintro e w0 ⟨rfl, hb0⟩; simp only [World.size_alloc] at hb0; obtain ⟨l0, l1, l2, l3, z1, z2, z3⟩ := make_low hb0; have hB0 : Below w.heap.size w w0 := (three_below _ _ _ _).trans (hb0.mono (by omega)))
    refine bodyPost_ret (v := .tuple #[.agg #[.slice none 0 0], .agg #[.int .i64 0, .int .i64 0], .int .i64 E]) (by simp [results, Tryz.results101, go_sem, l1, l2, l3]) rfl ⟨rfl, ?_⟩
    first | exact ((hB0.setCell (by simp) _).setCell (by simp; omega) _).setCell (by simp; omega) _ | exact (((hB0.setCell (by simp) _).setCell (by simp; omega) _).setCell (by simp; omega) _).drew
end Go.Proofs.YtgjfmepbphfjoaaGreat

namespace Go.Proofs.YtgjfmepbphfjoaaGreat
open Go.RowKit

theorem WF.ringless {S : List Nd} (h : WF S) {x j : Nat} (hx : x < S.length) (h1 : 1 ≤ j) : ¬ Up S j x x := fun hu =>
  h.no_ring hx h1 (by have := h.up_short hx hu; omega) hu

theorem WF.leaveG {S : List Nd} (h : WF S) {ch : Nat} (hch : ch < S.length) : WF (leaveG S ch) := by
  unfold Go.Proofs.YtgjfmepbphfjoaaGreat.leaveG
  split
  · exact h
  · rename_i hp
    obtain ⟨pa, e, _⟩ := h.parent_place hch hp
    rw [e, Int.toNat_natCast]
    exact h.leave hch e

theorem leaveG_u (S : List Nd) (ch j : Nat) : (nd (leaveG S ch) j).u = (nd S j).u ∧ (nd (leaveG S ch) j).n = (nd S j).n ∧ (nd (leaveG S ch) j).h = (nd S j).h ∧ (nd (leaveG S ch) j).t = (nd S j).t ∧ (nd (leaveG S ch) j).m = (nd S j).m ∧ (nd (leaveG S ch) j).c = (nd S j).c := by
  unfold leaveG
  split
  · exact ⟨rfl, rfl, rfl, rfl, rfl, rfl⟩
  · exact leave_u S _ ch j

theorem leaveG_p (S : List Nd) {ch j : Nat} (hj : j < S.length) : (nd (leaveG S ch) j).p = if j = ch then -1 else (nd S j).p := by
  unfold leaveG
  split
  · rename_i h
    split
    · rename_i e; rw [e]; exact h
    · rfl
  · exact leave_p S hj

theorem leaveG_ks {S : List Nd} (h : WF S) {ch j : Nat} (hch : ch < S.length) (hj : j < S.length) (hne : (nd S ch).p ≠ j) : (nd (leaveG S ch) j).ks = (nd S j).ks := by
  unfold leaveG
  split
  · rfl
  · rename_i hp
    obtain ⟨pa, e, _, hpc, _⟩ := h.parent_place hch hp
    rw [e, Int.toNat_natCast, leave_ks S hpc hj, if_neg (by omega)]

theorem leaveG_under {S : List Nd} {pa ch : Nat} (hpa : pa < S.length) (hu : underB S pa ch = false) : underB (leaveG S ch) pa ch = false := by
  cases hb : underB (leaveG S ch) pa ch with
  | false => rfl
  | true =>
    have hl := leaveG_length S ch
    obtain ⟨j, j1, j2, j3⟩ := under_up (by rw [hl]; exact hpa) hb
    rw [hl] at j2
    have : Up S j pa ch := up_same hl (fun y hy z hz => by
      unfold rightUnder at *
      rw [(leaveG_u S ch y).2.2.1, leaveG_p S hy] at hz
      by_cases e1 : y = ch
      · subst e1
        rw [if_pos rfl] at hz
        by_cases hh : (nd S y).h = -1
        · rw [if_pos hh] at hz
          omega
        · rw [if_neg hh] at hz ⊢
          exact hz
      · rw [if_neg e1] at hz
        exact hz) hpa j3
    rw [up_under hpa j1 j2 this] at hu
    cases hu

theorem fits_parts {S : List Nd} {ch pa : Nat} (h : fitsB S ch pa = true) : (nd S ch).h = -1 ∧ pa ≠ ch ∧ underB S pa ch = false := by
  unfold fitsB at h
  simp only [Bool.and_eq_true, Bool.not_eq_true', decide_eq_true_eq, decide_eq_false_iff_not] at h
  exact ⟨h.1, fun e => h.2.1 (by rw [e]), h.2.2⟩

structure Puts (S : List Nd) (pa ch : Nat) : Prop where
  wf : WF S
  hpa : pa < S.length
  hch : ch < S.length
  hpu : (nd S pa).u = true
  hcu : (nd S ch).u = true
  fits : fitsB S ch pa = true

theorem Puts.insert {S : List Nd} {pa ch : Nat} (h : Puts S pa ch) (at' : Nat) : WF (enterS (leaveG S ch) pa ch at') := by
  obtain ⟨f1, f2, f3⟩ := fits_parts h.fits
  have hl := leaveG_length S ch
  refine (h.wf.leaveG h.hch).enter (by rw [hl]; exact h.hpa) (by rw [hl]; exact h.hch) ?_ ?_ ?_ ?_ f2 (leaveG_under h.hpa f3)
  · rw [(leaveG_u S ch pa).1]; exact h.hpu
  · rw [(leaveG_u S ch ch).1]; exact h.hcu
  · rw [leaveG_p S h.hch, if_pos rfl]
  · rw [(leaveG_u S ch ch).2.2.1]; exact f1

theorem orderF_congr {S A : List Nd} : ∀ {f p : Nat}, (∀ y ∈ orderF S f p, (nd A y.toNat).ks = (nd S y.toNat).ks) → orderF A f p = orderF S f p
  | 0, _, _ => rfl
  | f + 1, p, h => by
    have hp : (nd A p).ks = (nd S p).ks := by
      have := h (p : Int) (by simp [orderF])
      simpa using this
    simp only [orderF, hp]
    congr 1
    have : ∀ l : List Int, (∀ k ∈ l, k ∈ (nd S p).ks) → l.flatMap (fun k => orderF A f k.toNat) = l.flatMap (fun k => orderF S f k.toNat) := by
      intro l
      induction l with
      | nil => intro _; rfl
      | cons k l ih =>
        intro hk
        rw [List.flatMap_cons, List.flatMap_cons, ih (fun x hx => hk x (by simp [hx])), orderF_congr (fun y hy => h y (by
          simp only [orderF, List.mem_cons, List.mem_flatMap]
          exact Or.inr ⟨k, hk k (by simp), hy⟩))]
    exact this _ (fun _ hk => hk)

theorem Puts.order {S : List Nd} {pa ch : Nat} (h : Puts S pa ch) (at' : Nat) : orderS (enterS (leaveG S ch) pa ch at') ch = orderS S ch := by
  obtain ⟨f1, f2, f3⟩ := fits_parts h.fits
  have hl := leaveG_length S ch
  unfold orderS
  rw [enterS_length, hl]
  refine orderF_congr (fun y hy => ?_)
  obtain ⟨q, rfl, hq, _, j, _, hup⟩ := mem_order h.wf h.hch (h.wf.deep_all h.hch) y hy
  rw [Int.toNat_natCast, enter_ks _ f2 (by rw [hl]; exact hq), if_neg, leaveG_ks h.wf h.hch hq]
  · intro e
    obtain ⟨p0, e0, hp0, _, hin, _⟩ := h.wf.parent_place h.hch (by omega)
    have : p0 = q := by omega
    subst this
    obtain ⟨k, ek, _, _, _, hr⟩ := h.wf.kid hp0 hin
    have : k = ch := by omega
    subst this
    exact h.wf.ringless h.hch (j := 1 + j) (by omega) ((WF.up_one hp0 hr).trans hup)
  · rintro rfl
    cases j with
    | zero => exact f2 hup
    | succ j =>
      rw [up_under hq (by omega) (by have := h.wf.up_short hq hup; omega) hup] at f3
      cases f3

theorem idx_ins {ks : List Int} {i : Nat} {c : Int} (hi : i ≤ ks.length) (hc : c ∉ ks) : idx (ins ks i c) c = i := by
  refine (idx_some (k := i) (by rw [ins_length _ _ _ hi]; omega) (ins_here ks i c hi) (fun j hj e => ?_)).1
  rw [ins_low ks i j c hi hj, getD_elem ks 0 (by omega)] at e
  exact hc (by rw [← e]; exact List.getElem_mem _)

theorem idx_lt {ks : List Int} {v : Int} (h : v ∈ ks) : ∃ k : Nat, idx ks v = k ∧ k < ks.length ∧ ks.getD k 0 = v := by
  refine ⟨ks.idxOf v, by unfold idx; rw [if_pos h], List.idxOf_lt_length_of_mem h, ?_⟩
  rw [getD_elem ks 0 (List.idxOf_lt_length_of_mem h)]
  exact List.getElem_idxOf (List.idxOf_lt_length_of_mem h)

theorem Puts.kids {S : List Nd} {pa ch : Nat} (h : Puts S pa ch) (at' : Nat) : (nd (enterS (leaveG S ch) pa ch at') pa).ks = ins (nd (leaveG S ch) pa).ks at' ch ∧ (ch : Int) ∉ (nd (leaveG S ch) pa).ks := by
  obtain ⟨f1, f2, f3⟩ := fits_parts h.fits
  have hl := leaveG_length S ch
  refine ⟨by rw [enter_ks _ f2 (by rw [hl]; exact h.hpa), if_pos rfl], (h.wf.leaveG h.hch).not_kid (by rw [leaveG_p S h.hch, if_pos rfl]) (by rw [hl]; exact h.hpa)⟩

theorem flt_ins {ks : List Int} {i : Nat} {c : Int} (hc : c ∉ ks) : flt (fun x => decide (x = c)) (ins ks i c) = ks := by
  unfold flt ins
  have key : ∀ l : List Int, (∀ x ∈ l, x ∈ ks) → l.filter (fun x => !decide (x = c)) = l := fun l hl => by
    rw [List.filter_eq_self]
    intro x hx
    have : x ≠ c := fun e => hc (by rw [← e]; exact hl x hx)
    simp [this]
  rw [List.filter_append, List.filter_cons, key _ (fun x hx => List.mem_of_mem_take hx), key _ (fun x hx => List.mem_of_mem_drop hx)]
  simp

/-- Put where it stood nowhere, and taken out: as it was. -/
theorem Puts.back {S : List Nd} {pa ch : Nat} (h : Puts S pa ch) (at' : Nat) (hp : (nd S ch).p = -1) : leaveS (enterS (leaveG S ch) pa ch at') pa ch = S := by
  obtain ⟨f1, f2, f3⟩ := fits_parts h.fits
  have hG : leaveG S ch = S := by unfold leaveG; rw [if_pos hp]
  have hn := (h.kids at').2
  rw [hG] at hn ⊢
  have hl1 : (enterS S pa ch at').length = S.length := enterS_length _ _ _ _
  have hl2 : (leaveS (enterS S pa ch at') pa ch).length = S.length := by rw [leaveS_length, hl1]
  refine List.ext_getElem hl2 fun i hi hi' => ?_
  rw [← nd_elem hi, ← nd_elem hi']
  rw [nd_leaveS _ _ _ _ (by rw [hl1]; exact hi')]
  unfold leaveNd
  split
  · rename_i e
    subst e
    obtain ⟨u1, u2, u3, u4, u5, u6⟩ := enter_u S pa i at' i
    rw [u1, u2, u3, u4, u5, u6, enter_ks S f2 hi', if_neg (fun e => f2 e.symm)]
    cases hx : nd S i
    rw [hx] at hp
    simp only at hp
    rw [hp]
  · rename_i e1
    split
    · rename_i e
      subst e
      obtain ⟨u1, u2, u3, u4, u5, u6⟩ := enter_u S i ch at' i
      rw [u1, u2, u3, u4, u5, u6, enter_p S hi', if_neg e1, enter_ks S f2 hi', if_pos rfl, flt_ins hn]
    · rename_i e2
      rw [nd_enterS S pa ch at' i hi']
      unfold enterNd
      rw [if_neg e1, if_neg e2]

/-- Right ahead of q, if that stands under pa. -/
theorem Puts.ahead {S : List Nd} {pa ch q : Nat} (h : Puts S pa ch) (hq : q < S.length) (hqp : (nd S q).p = pa) (hqc : q ≠ ch) : ∃ at' : Nat, idx (nd (leaveG S ch) pa).ks q = at' ∧ at' < (nd (leaveG S ch) pa).ks.length ∧ (nd (leaveG S ch) pa).ks.getD at' 0 = q := by
  have hl := leaveG_length S ch
  have := (h.wf.leaveG h.hch).in_kids (k := q) (y := pa) (by rw [hl]; exact hq) (by rw [leaveG_p S hq, if_neg hqc]; exact hqp)
  exact idx_lt this.2

theorem WF.kids_small {S : List Nd} (h : WF S) {i : Nat} (hi : i < S.length) : (nd S i).ks.length ≤ 24 := by
  have h1 := h.kids_nodup hi
  have := h1.length_le_of_subset (l₂ := (List.range S.length).map (fun k : Nat => (k : Int))) (fun x hx => by
    obtain ⟨k, rfl, hk, _⟩ := h.kid hi hx
    exact List.mem_map.2 ⟨k, List.mem_range.2 hk, rfl⟩)
  rw [List.length_map, List.length_range] at this
  exact Nat.le_trans this h.small

theorem WF.big {S : List Nd} (h : WF S) : Big S := fun _ hi => Nat.le_trans (h.kids_small hi) (by omega)

theorem holds_used {S : List Nd} {k : Nat} {u : Int} (hk : k < S.length) (hu : (nd S k).u = true) (hn : (nd S k).n = u) (h : WF S) : holdsE S k u = 0 := by
  have h1 := (node_parts (h.node k hk)).1
  have h2 := (node_parts (h.node k hk)).2.2
  unfold formB at h2
  rw [if_pos hu] at h2
  unfold rangeB at h1
  simp only [Bool.and_eq_true, decide_eq_true_eq] at h1
  have h3 : (nd S k).n ≠ 0 := fun e => by rw [if_pos e] at h2; cases h2
  unfold holdsE
  rw [if_pos (show isPl S.length (k : Int) = true from decide_eq_true ⟨by omega, by omega⟩), Int.toNat_natCast]
  unfold holdX
  rw [if_pos (decide_eq_true ⟨by omega, by omega⟩), if_pos hu, if_pos hn]

theorem tcheck_of {S : List Nd} {k : Nat} {u : Int} (hk : k < S.length) (hu : (nd S k).u = true) (hn : (nd S k).n = u) (h : WF S) : tcheckE S [((k : Int), u)] = 0 := by
  unfold tcheckE
  rw [if_pos ((wf_iff S).2 h), hands_single]
  exact holds_used hk hu hn h
end Go.Proofs.YtgjfmepbphfjoaaGreat
