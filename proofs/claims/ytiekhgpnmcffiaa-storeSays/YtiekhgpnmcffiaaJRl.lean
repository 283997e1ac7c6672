/-
  What the program and the reference answer alike: Make, Free, Find (for StoreSays).
-/
import Derived.Test.YtiekhgpnmcffiaaJRk
import Derived.Test.YtiekhgpnmcffiaaJXc
import Derived.Test.YtiekhgpnmcffiaaJSrWf
namespace Go.Proofs.Ytiekhgpnmcffiaa
open Go.RowKit

theorem hang_loose {S : List Nd} (wf : WF S) {k : Nat} (hk : k < S.length) : (∀ i, i < S.length → hangB S k i = false) ↔ looseB S k := by
  constructor
  · intro h
    have hs : ∀ i, i < S.length → rightUnder (nd S i) ≠ (k : Int) := fun i hi e => by
      have := h i hi
      unfold hangB at this
      simp [e] at this
    refine ⟨?_, ?_, ?_⟩
    · have := h k hk
      unfold hangB at this
      simp at this
      exact this.1
    · cases hks : (nd S k).ks with
      | nil => rfl
      | cons x l =>
        exfalso
        obtain ⟨j, _, h2, _, _, h3⟩ := wf.kid hk (x := x) (by rw [hks]; simp)
        exact hs j h2 h3
    · rw [hostB_false]
      intro i hi e
      refine hs i hi ?_
      unfold rightUnder
      rw [if_neg (by omega)]
      exact e
  · intro ⟨h1, h2, h3⟩ i hi
    unfold hangB
    have hr : rightUnder (nd S i) ≠ (k : Int) := fun e => by
      unfold rightUnder at e
      split at e
      · have := (wf.in_kids hi e).2
        rw [h2] at this
        cases this
      · exact hostB_false.1 h3 i hi e
    by_cases e : i = k
    · subst e
      first | (simp [h1]; done) | (simp [h1]; omega)
    · simp [e, hr]

theorem holds_parts {S : List Nd} {p u : Int} (h : holdsE S p u = 0) : ∃ k : Nat, p = k ∧ k < S.length ∧ (nd S k).u = true ∧ (nd S k).n = u := by
  unfold holdsE at h
  split at h
  · next hp =>
    have hp2 : 0 ≤ p ∧ p ≤ (S.length : Int) - 1 := of_decide_eq_true hp
    refine ⟨p.toNat, by omega, by omega, ?_⟩
    unfold holdX at h
    split at h
    · split at h
      · next hu =>
        split at h
        · next hn => exact ⟨hu, hn⟩
        · omega
      · omega
    · omega
  · omega

theorem tcheck_find (S : List Nd) (p u : Int) : tcheckE S [(p, u)] = findE S p u := by
  unfold tcheckE findE handsE handsE
  by_cases h : holdsE S p u = 0
  · simp [h]
  · simp [h]

/-- What a call that answers a store, a hand and an error answers. -/
abbrev StoHand (f : Nat) (S T : List Nd) (more : Array Value) (p u E : Int) : Prop := ∀ (a : Option Addr) (c : Nat) W, NdsAt W a S →
  Calls Try.prog f (#[.agg #[.slice a S.length c]] ++ more) W fun e w' => ∃ a' c', e = .returned (.tuple #[.agg #[.slice a' T.length c'], .agg #[.int .i64 p, .int .i64 u], .int .i64 E]) ∧ Below W.heap.size W w' ∧ NdsAt w' a' T
abbrev StoErr (f : Nat) (S T : List Nd) (more : Array Value) (E : Int) : Prop := ∀ (a : Option Addr) (c : Nat) W, NdsAt W a S →
  Calls Try.prog f (#[.agg #[.slice a S.length c]] ++ more) W fun e w' => ∃ a' c', e = .returned (.tuple #[.agg #[.slice a' T.length c'], .int .i64 E]) ∧ Below W.heap.size W w' ∧ NdsAt w' a' T

theorem nds_nil (W : World) : NdsAt W none [] := fun _ hi => absurd hi (Nat.not_lt_zero _)

theorem make_both (S : List Nd) (t : Int) (hN : S.length ≤ 9223372036854775807) (hB : Big S) (hC : ∀ a c, RChk a c S) :
    ∃ T p u E, T.length ≤ 9223372036854775807 ∧ Big T ∧ StoHand 12 S T #[.int .i64 t] p u E ∧ StoHand 15 S T #[.int .i64 t] p u E := by
  by_cases hE : makeE S t = 0
  · have hE' := hE
    unfold makeE at hE
    by_cases hc : checkE S = 0
    · rw [if_pos hc] at hE
      by_cases ht : 0 ≤ t ∧ t ≤ 99
      · rw [if_pos ht] at hE
        have hf : S.any freeB = true := by
          cases hq : S.any freeB with
          | true => rfl
          | false => rw [hq, if_neg (by simp)] at hE; omega
        obtain ⟨k, hk, hk1, hk2⟩ := first_free hf
        have wf := (wf_iff S).1 hc
        have wf2 := wf.make hk hk1 ht.1 ht.2
        have hks : ∀ i, i < S.length → (nd S i).ks.length ≤ 1000 := fun i hi => by have := wf.kids_small hi; omega
        refine ⟨S.set k (madeNd (nd S k) t), k, (nd S k).n + 1, 0, by rw [List.length_set]; exact hN, wf2.big, fun a c W hW => ?_, fun a c W hW => ?_⟩
        · refine (make_ok a c S t W wf.small hks hW hc ht.1 ht.2 k hk hk1 (wf.uses hk).1 hk2).mono (fun e w' ⟨g, e1, hb, _, hn⟩ => ⟨some ⟨g, 0, none⟩, S.length, ?_, hb, hn w' (fun _ _ => rfl)⟩)
          rw [e1, List.length_set]
        · refine (rMade_ok a c S t W (hC a c) hW wf.small hks hc ht.1 ht.2 k hk hk1 (fun i hi => ⟨(wf.uses hi).1, (wf.uses hi).2.1⟩) hk2).mono (fun e w' ⟨a', c', e1, hb, hn⟩ => ⟨a', c', ?_, hb, hn⟩)
          rw [e1, List.length_set]
      · rw [if_neg ht] at hE; omega
    · rw [if_neg hc] at hE; exact absurd hE hc
  · refine ⟨[], 0, 0, makeE S t, by simp, fun i hi => absurd hi (Nat.not_lt_zero _), fun a c W hW => ?_, fun a c W hW => ?_⟩
    · exact (make_err a c S t _ W hN hB hW rfl hE).mono (fun e w' ⟨e1, hb⟩ => ⟨none, 0, e1, hb, nds_nil _⟩)
    · refine (rMade_err a c S t _ W (hC a c) hW (fun hc => ?_) rfl hE).mono (fun e w' ⟨e1, hb⟩ => ⟨none, 0, e1, hb, nds_nil _⟩)
      have wf := (wf_iff S).1 hc
      exact ⟨wf.small, fun i hi => by have := wf.kids_small hi; omega, fun i hi => ⟨(wf.uses hi).1, (wf.uses hi).2.1⟩⟩

set_option maxHeartbeats 1000000 in
theorem rFreed_err (a : Option Addr) (c : Nat) (S : List Nd) (p u E : Int) (w : World) (hN : S.length ≤ 9223372036854775807) (hC : RChk a c S) (hS : NdsAt w a S) (hE : tcheckE S [(p, u)] = E) (hE0 : E ≠ 0) :
    Calls Try.prog 16 #[.agg #[.slice a S.length c], .agg #[.int .i64 p, .int .i64 u]] w fun e w' => e = .returned (.tuple #[.agg #[.slice none 0 0], .int .i64 E]) ∧ Below w.heap.size w w' := by
  have df := fun (W : World) (ha : Option Addr) (hW : NdsAt W a S) (hH : HandsAt W ha [(p, u)]) => rFirst_any a c S ha 1 [(p, u)] W hN hC hW (by simp) hH
  rw [hE] at df
  have DF : Hid _ := df
  have HS : Hid (NdsAt w a S) := hS
  have hz : (E == 0) = false := by simp [hE0]
  have hz2 : (E != 0) = true := by simp [hE0]
  clear hS hC df hE
  generalize S.length = n at *
  go_enter Try.func16, Try.ntmps16
  go_wp2_with (go_at_call 43; refine (DF.out _ _ (HS.out.below ((three_below _ _ _ _).alloc (by simp; omega) _)) (hands_one _ _ _ _ (by go_simp) (by go_simp))).mono ?_; rintro e w1 ⟨rfl, hb1⟩; simp only [World.size_alloc] at hb1; obtain ⟨l0, l1, l2, l3, z0, z1, hsz, hB1⟩ := freed_low hb1)
  refine bodyPost_ret (v := .tuple #[.agg #[.slice none 0 0], .int .i64 E]) (by simp [results, Try.results16, go_sem, l3]) rfl ⟨rfl, ?_⟩
  first | exact hB1.setCell (by simp; omega) _ | exact (hB1.setCell (by simp; omega) _).drew

theorem free_both (S : List Nd) (p u : Int) (hN : S.length ≤ 9223372036854775807) (hB : Big S) (hC : ∀ a c, RChk a c S) :
    ∃ T E, T.length ≤ 9223372036854775807 ∧ Big T ∧ StoErr 14 S T #[.agg #[.int .i64 p, .int .i64 u]] E ∧ StoErr 16 S T #[.agg #[.int .i64 p, .int .i64 u]] E := by
  by_cases hE : findE S p u = 0
  · obtain ⟨hc, hh⟩ := find_parts hE
    obtain ⟨k, hp, hk, hku, hkn⟩ := holds_parts hh
    have wf := (wf_iff S).1 hc
    have hks : ∀ i, i < S.length → (nd S i).ks.length ≤ 1000 := fun i hi => by have := wf.kids_small hi; omega
    subst hp
    by_cases hl : looseB S k
    · have wf2 := wf.free hk hl
      refine ⟨S.set k (freedNd (nd S k)), 0, by rw [List.length_set]; exact hN, wf2.big, fun a c W hW => ?_, fun a c W hW => ?_⟩
      · refine (free_ok a c S k u W wf.small hks hW hk hE hl).mono (fun e w' ⟨g, e1, hb, _, hn⟩ => ⟨some ⟨g, 0, none⟩, S.length, ?_, hb, hn w' (fun _ _ => rfl)⟩)
        rw [e1, List.length_set]
      · refine rFreed_any a c S _ k k u 0 W rfl (hC a c) hW wf.small hks hk (by rw [tcheck_find]; exact hE) (fun _ => ⟨?_, rfl⟩) (fun i hi h => ?_)
        · rw [← hkn]; rfl
        · rw [(hang_loose wf hk).2 hl i hi] at h; cases h
    · refine ⟨[], 6, by simp, fun i hi => absurd hi (Nat.not_lt_zero _), fun a c W hW => ?_, fun a c W hW => ?_⟩
      · exact (free_tree a c S k u W hN hB hW hk hE (by have := hks k hk; omega) hl).mono (fun e w' ⟨e1, hb⟩ => ⟨none, 0, e1, hb, nds_nil _⟩)
      · exact rFreed_any a c S [] k k u 6 W rfl (hC a c) hW wf.small hks hk (by rw [tcheck_find]; exact hE) (fun h => absurd ((hang_loose wf hk).1 h) hl) (fun i hi h => ⟨rfl, rfl⟩)
  · refine ⟨[], findE S p u, by simp, fun i hi => absurd hi (Nat.not_lt_zero _), fun a c W hW => ?_, fun a c W hW => ?_⟩
    · exact (free_err a c S p u _ W hN hB hW rfl hE).mono (fun e w' ⟨e1, hb⟩ => ⟨none, 0, e1, hb, nds_nil _⟩)
    · exact (rFreed_err a c S p u _ W hN (hC a c) hW (tcheck_find S p u) hE).mono (fun e w' ⟨e1, hb⟩ => ⟨none, 0, e1, hb, nds_nil _⟩)

/-- What Find answers. -/
theorem find_all (S : List Nd) (p u : Int) (hN : S.length ≤ 9223372036854775807) (hB : Big S) : ∃ x : Nd, x.ks.length ≤ 9223372036854775807 ∧ (findE S p u = 0 → ∃ k : Nat, p = k ∧ k < S.length ∧ x = nd S k) ∧ (findE S p u ≠ 0 → x = zeroNd) ∧
    ∀ (a : Option Addr) (c : Nat) W, NdsAt W a S → Calls Try.prog 13 #[.agg #[.slice a S.length c], .agg #[.int .i64 p, .int .i64 u]] W fun e w' => ∃ ka kc, e = .returned (.tuple #[.agg #[.bool x.u, .int .i64 x.n, .int .i64 x.t, .int .i64 x.m, .int .i64 x.p, .slice ka x.ks.length kc, .int .i64 x.h, .bool x.c], .int .i64 (findE S p u)]) ∧ Below W.heap.size W w' ∧ IntsAt w' ka x.ks := by
  by_cases hE : findE S p u = 0
  · obtain ⟨hc, hh⟩ := find_parts hE
    obtain ⟨k, hp, hk, hku, hkn⟩ := holds_parts hh
    have wf := (wf_iff S).1 hc
    subst hp
    refine ⟨nd S k, hB k hk, fun _ => ⟨k, rfl, hk, rfl⟩, fun h => absurd hE h, fun a c W hW => ?_⟩
    rw [hE]
    exact (find_ok a c S k u W hN hB hW hk hE (by have := wf.kids_small hk; omega)).mono (fun e w' ⟨g, e1, hb, hi⟩ => ⟨some ⟨g, 0, none⟩, _, e1, hb, hi⟩)
  · refine ⟨zeroNd, by simp [zeroNd], fun h => absurd h hE, fun _ => rfl, fun a c W hW => ?_⟩
    exact (find_err a c S p u _ W hN hB hW rfl hE).mono (fun e w' ⟨e1, hb⟩ => ⟨none, 0, e1, hb, fun i hi => absurd hi (Nat.not_lt_zero _)⟩)

set_option maxHeartbeats 400000 in
theorem new_bad (p : Int) (w : World) (hp : p < 0 ∨ 24 < p) :
    Calls Try.prog 11 #[.int .i64 p] w fun e w' => e = .returned (.tuple #[.agg #[.slice none 0 0], .int .i64 2]) ∧ Below w.heap.size w w' := by
  go_enter Try.func11, Try.ntmps11
  go_wp2_with (go_at_call 34; refine (within_no _ _ _ _ hp).mono ?_; rintro e w' ⟨rfl, rfl⟩)
  first
    | (go_ret; exact ⟨rfl, Below.refl _ _⟩)
    | (go_ret; exact ⟨rfl, (Below.refl _ _).alloc (Nat.le_refl _) _⟩)
    | (refine bodyPost_ret (v := .tuple #[.agg #[.slice none 0 0], .int .i64 2]) (by simp [results, Try.results11, go_sem]) rfl ⟨rfl, ?_⟩; first | exact (Below.refl _ _).alloc (Nat.le_refl _) _ | exact ((Below.refl _ _).alloc (Nat.le_refl _) _).setCell (by simp) _ | exact (((Below.refl _ _).alloc (Nat.le_refl _) _).setCell (by simp) _).drew)
end Go.Proofs.Ytiekhgpnmcffiaa
