/-
  What a hand that is found says of the store; the law's own helpers.
-/
import Derived.Test.YtiekhgpnmcffiabJZi
import Derived.Test.YtiekhgpnmcffiabJRq
import Derived.Test.YtiekhgpnmcffiabJRr
import Derived.Test.YtiekhgpnmcffiabJZh
import Derived.Test.YtiekhgpnmcffiabJZe
namespace Go.Proofs.Ytiekhgpnmcffiab
open Go.RowKit

theorem find_used {S : List Nd} {p u : Int} (h : findE S p u = 0) : WF S ∧ ∃ k : Nat, p = k ∧ k < S.length ∧ (nd S k).u = true ∧ (nd S k).n = u := by
  obtain ⟨hc, hh⟩ := find_parts h
  refine ⟨(wf_iff S).1 hc, ?_⟩
  unfold holdsE at hh
  cases hq : isPl S.length p with
  | false => rw [hq, if_neg (by simp)] at hh; omega
  | true =>
    have hq' : 0 ≤ p ∧ p ≤ (S.length : Int) - 1 := of_decide_eq_true hq
    obtain ⟨k, rfl⟩ : ∃ k : Nat, p = k := ⟨p.toNat, by omega⟩
    rw [hq, if_pos rfl, Int.toNat_natCast] at hh
    unfold holdX at hh
    refine ⟨k, rfl, by omega, ?_⟩
    split at hh
    · split at hh
      · split at hh
        · exact ⟨by assumption, by assumption⟩
        · omega
      · omega
    · omega

theorem find_here {S : List Nd} (wf : WF S) {k : Nat} (hk : k < S.length) (hu : (nd S k).u = true) : findE S k (nd S k).n = 0 := find_zero wf (holds_used hk hu rfl wf)

theorem seen_of_roots {S : List Nd} {p q : Nat} (h : rootsF S p q = []) : seenF S p q = true := by
  unfold seenF
  rw [h]
  rfl

end Go.Proofs.Ytiekhgpnmcffiab

namespace Go.Proofs.Ytiekhgpnmcffiab
open Go.RowKit

theorem tcheck_1h (S : List Nd) (p u : Int) : tcheckE S [(p, u)] = findE S p u := by
  unfold tcheckE findE handsE handsE
  by_cases h : holdsE S p u = 0
  · simp [h]
  · simp [h]

theorem tcheck_two (S : List Nd) (p u q v : Int) : tcheckE S [(p, u), (q, v)] = if findE S p u = 0 then findE S q v else findE S p u := by
  unfold tcheckE findE handsE handsE handsE
  by_cases hc : checkE S = 0
  · simp only [if_pos hc]
    by_cases h : holdsE S p u = 0
    · simp only [if_pos h]
      by_cases h2 : holdsE S q v = 0
      · simp [h2]
      · simp [h2]
    · simp [h]
  · simp [hc]

theorem nds_none (W : World) : NdsAt W none [] := fun _ hi => absurd hi (Nat.not_lt_zero _)

/-- What Attach and Attached answer. -/
abbrev AttAns (f : Nat) (S T : List Nd) (p u : Int) (cl : Bool) (kp ku E : Int) : Prop := ∀ (a : Option Addr) (c : Nat) W, NdsAt W a S →
  Calls Try.prog f #[.agg #[.slice a S.length c], .agg #[.int .i64 p, .int .i64 u], .bool cl] W fun e w' => ∃ a' c', e = .returned (.tuple #[.agg #[.slice a' T.length c'], .agg #[.int .i64 kp, .int .i64 ku], .int .i64 E]) ∧ Below W.heap.size W w' ∧ NdsAt w' a' T

theorem attach_both (S : List Nd) (p u : Int) (cl : Bool) (hN : S.length ≤ 9223372036854775807) (hB : Big S) (hC : ∀ a c, RChk a c S) :
    ∃ T kp ku E, T.length ≤ 9223372036854775807 ∧ Big T ∧ AttAns 30 S T p u cl kp ku E ∧ AttAns 33 S T p u cl kp ku E := by
  have big0 : Big [] := fun i hi => absurd hi (Nat.not_lt_zero _)
  by_cases hE : findE S p u = 0
  · obtain ⟨wf, k, rfl, hk, hku, hkn⟩ := find_used hE
    have hc : checkE S = 0 := (wf_iff S).2 wf
    have hks : ∀ i, i < S.length → (nd S i).ks.length ≤ 1000 := fun i hi => by have := wf.kids_small hi; omega
    have h0 : tcheckE S [((k : Int), u)] = 0 := by rw [tcheck_1h]; exact hE
    cases hH : hostB S k with
    | true =>
      obtain ⟨k1, hk1, hh1⟩ : ∃ k1, k1 < S.length ∧ (nd S k1).h = (k : Int) := by
        refine Classical.byContradiction fun hn => ?_
        have : hostB S (k : Int) = false := hostB_false.2 (fun i hi e => hn ⟨i, hi, e⟩)
        rw [hH] at this
        cases this
      refine ⟨[], 0, 0, 6, by simp, big0, fun a c W hW => ?_, fun a c W hW => ?_⟩
      · exact (attach_err2 a c S k u cl W wf hW hk hE hH).mono (fun e w' ⟨e1, hb⟩ => ⟨none, 0, e1, hb, nds_none _⟩)
      · exact (rAtt_err2 a c S (k : Int) u 6 cl W wf.small (hC a c) hW h0 k1 hk1 hh1 rfl).mono (fun e w' ⟨e1, hb⟩ => ⟨none, 0, e1, hb, nds_none _⟩)
    | false =>
      have hh := hostB_false.1 hH
      by_cases hM : makeE S 0 = 0
      · have hf : S.any freeB = true := by
          unfold makeE at hM
          rw [if_pos hc, if_pos (by omega)] at hM
          cases hq : S.any freeB with
          | true => rfl
          | false => rw [hq, if_neg (by simp)] at hM; omega
        obtain ⟨f, hf0, hf1, hf2⟩ := first_free hf
        have wf2 := wf.attach cl hf0 hf1 hk hku hH
        refine ⟨S.set f (rootNd (nd S f) k cl), f, (nd S f).n + 1, 0, by rw [List.length_set]; exact hN, wf2.big, fun a c W hW => ?_, fun a c W hW => ?_⟩
        · refine (attach_ok a c S k f u cl W wf hW hk hE hH hf0 hf1 hf2).mono (fun e w' ⟨g, e1, hb, _, ho⟩ => ⟨some ⟨g, 0, none⟩, S.length, ?_, hb, ho.nds⟩)
          rw [e1, List.length_set]
        · refine (rAtt_ok a c S k (k : Int) u cl W rfl wf.small (hC a c) hW h0 hh f hf0 (fun W2 hW2 => rMade_own a c S 0 W2 (hC a c) hW2 wf.small hks hc (by omega) (by omega) f hf0 hf1 (fun i hi => ⟨(wf.uses hi).1, (wf.uses hi).2.1⟩) hf2)).mono (fun e w' ⟨a', c', e1, hb, hn⟩ => ⟨a', c', ?_, hb, hn⟩)
          rw [e1, List.length_set]
      · refine ⟨[], 0, 0, makeE S 0, by simp, big0, fun a c W hW => ?_, fun a c W hW => ?_⟩
        · exact (attach_err3 a c S k u _ cl W wf hW hk hE hH rfl hM).mono (fun e w' ⟨e1, hb⟩ => ⟨none, 0, e1, hb, nds_none _⟩)
        · exact (rAtt_err3 a c S (k : Int) u _ cl W wf.small (hC a c) hW h0 hh (fun W2 hW2 => rMade_err a c S 0 _ W2 (hC a c) hW2 (fun _ => ⟨wf.small, hks, fun i hi => ⟨(wf.uses hi).1, (wf.uses hi).2.1⟩⟩) rfl hM) hM).mono (fun e w' ⟨e1, hb⟩ => ⟨none, 0, e1, hb, nds_none _⟩)
  · refine ⟨[], 0, 0, findE S p u, by simp, big0, fun a c W hW => ?_, fun a c W hW => ?_⟩
    · exact (attach_err1 a c S p u _ cl W hN hB hW rfl hE).mono (fun e w' ⟨e1, hb⟩ => ⟨none, 0, e1, hb, nds_none _⟩)
    · exact (rAtt_err1 a c S p u _ cl W hN (hC a c) hW (tcheck_1h S p u) hE).mono (fun e w' ⟨e1, hb⟩ => ⟨none, 0, e1, hb, nds_none _⟩)

/-- What Seen and SeenFrom answer. -/
abbrev SeenAns (f : Nat) (S : List Nd) (p u q v : Int) (B : Bool) (E : Int) : Prop := ∀ (a : Option Addr) (c : Nat) W, NdsAt W a S →
  Calls Try.prog f #[.agg #[.slice a S.length c], .agg #[.int .i64 p, .int .i64 u], .agg #[.int .i64 q, .int .i64 v]] W fun e w' => e = .returned (.tuple #[.bool B, .int .i64 E]) ∧ Below W.heap.size W w'

theorem seen_both (S : List Nd) (p u q v : Int) (hN : S.length ≤ 9223372036854775807) (hB : Big S) (hC : ∀ a c, RChk a c S) :
    ∃ B E, SeenAns 31 S p u q v B E ∧ SeenAns 34 S p u q v B E := by
  have ht := tcheck_two S p u q v
  by_cases h1 : findE S p u = 0
  · rw [if_pos h1] at ht
    obtain ⟨wf, k, rfl, hk, hu, _⟩ := find_used h1
    by_cases h2 : findE S q v = 0
    · obtain ⟨_, m, rfl, hm, hv, _⟩ := find_used h2
      exact ⟨seenF S k m, 0, fun a c W hW => seen_ok a c S k m u v W wf hW hk hm h1 h2, fun a c W hW => rSeen_ok a c S k m u v W wf.small (hC a c) hW hk hm (ht.trans h2)⟩
    · exact ⟨false, findE S q v, fun a c W hW => seen_err2 a c S k u q v _ W hN hB hW hk h1 (by have := wf.kids_small hk; omega) rfl h2, fun a c W hW => rSeen_err a c S k u q v _ W hN (hC a c) hW ht h2⟩
  · rw [if_neg h1] at ht
    exact ⟨false, findE S p u, fun a c W hW => seen_err1 a c S p u q v _ W hN hB hW rfl h1, fun a c W hW => rSeen_err a c S p u q v _ W hN (hC a c) hW ht h1⟩

set_option maxHeartbeats 1000000 in
theorem path_err (a : Option Addr) (c : Nat) (S : List Nd) (p u E : Int) (w : World) (hN : S.length ≤ 9223372036854775807) (hB : Big S) (hS : NdsAt w a S) (hE : findE S p u = E) (hE0 : E ≠ 0) :
    Calls Try.prog 32 #[.agg #[.slice a S.length c], .agg #[.int .i64 p, .int .i64 u]] w fun e w' => e = .returned (.tuple #[.slice none 0 0, .int .i64 E]) ∧ Below w.heap.size w w' := by
  have D0 : Hid (∀ W, NdsAt W a S → Calls _ _ _ _ _) := fun W hW => find_err a c S p u E W hN hB hW hE hE0
  have HS : Hid (NdsAt w a S) := hS
  have hz0 : (E == 0) = false := by simp [hE0]
  have hz1 : decide (E = 0) = false := decide_eq_false hE0
  clear hS hE hB hN
  generalize S.length = n at *
  go_enter Try.func32, Try.ntmps32
  go_wp2_with fail
  refine Calls.mono (D0.out _ (HS.out.below (two_below _ _ _))) ?_
  rintro e w2 ⟨rfl, hb2⟩
  simp only [World.size_alloc] at hb2
  have HB2 : Hid (Below w.heap.size w w2) := (two_below _ _ _).trans (hb2.mono (by omega))
  clear hb2
  go_wp2_with fail
  refine bodyPost_ret (v := .tuple #[.slice none 0 0, .int .i64 E]) (by simp [results, Try.results32, go_sem]) rfl ⟨rfl, ?_⟩
  first | exact HB2.out | exact HB2.out.alloc HB2.out.size _ | exact (HB2.out.alloc HB2.out.size _).drew

theorem path_all (S : List Nd) (p u : Int) (hN : S.length ≤ 9223372036854775807) (hB : Big S) :
    ∃ L : List Int, L.length ≤ 9223372036854775807 ∧ (findE S p u = 0 → ∃ k : Nat, p = k ∧ k < S.length ∧ L = pathF S k) ∧ (findE S p u ≠ 0 → L = []) ∧
    ∀ (a : Option Addr) (c : Nat) W, NdsAt W a S → Calls Try.prog 32 #[.agg #[.slice a S.length c], .agg #[.int .i64 p, .int .i64 u]] W fun e w' => ∃ a' c', e = .returned (.tuple #[.slice a' L.length c', .int .i64 (findE S p u)]) ∧ Below W.heap.size W w' ∧ IntsAt w' a' L := by
  by_cases hE : findE S p u = 0
  · obtain ⟨wf, k, rfl, hk, _, _⟩ := find_used hE
    refine ⟨pathF S k, by have := path_len S k; have := wf.small; omega, fun _ => ⟨k, rfl, hk, rfl⟩, fun h => absurd hE h, fun a c W hW => ?_⟩
    rw [hE]
    refine (path_ok a c S k u W wf hW hk hE).mono (fun e w' ⟨v, e1, hb, ho⟩ => ?_)
    obtain ⟨pa, pc, rfl, hi, _⟩ := own_slice ho
    exact ⟨pa, pc, e1, hb, hi⟩
  · exact ⟨[], by simp, fun h => absurd h hE, fun _ => rfl, fun a c W hW => (path_err a c S p u _ W hN hB hW rfl hE).mono (fun e w' ⟨e1, hb⟩ => ⟨none, 0, e1, hb, fun i hi => absurd hi (Nat.not_lt_zero _)⟩)⟩

/-- Is a place in use? (Of any number.) -/
def usedB (S : List Nd) (q : Int) : Bool := isPl S.length q && (nd S q.toNat).u

set_option maxHeartbeats 1000000 in
theorem used_all (a : Option Addr) (c : Nat) (S : List Nd) (q : Int) (w : World) (hS : NdsAt w a S) :
    Calls Try.prog 18 #[.agg #[.slice a S.length c], .int .i64 q] w fun e w' => e = .returned (.bool (usedB S q)) ∧ Below w.heap.size w w' := by
  by_cases hq : 0 ≤ q ∧ q < (S.length : Int)
  · obtain ⟨t, rfl⟩ : ∃ t : Nat, q = t := ⟨q.toNat, by omega⟩
    have ht : t < S.length := by omega
    obtain ⟨nb, no, rfl, c0, _⟩ := hS t ht
    have hnb := World.block_lt_of_cell? _ _ c0
    have e : usedB S (t : Int) = (nd S t).u := by
      unfold usedB
      rw [isPl_nat.2 ht, Int.toNat_natCast]
      rfl
    rw [e]
    have h1 : (t : Int) < (S.length : Int) := hq.2
    have b1 : decide ((0 : Int) ≤ (t : Int)) = true := decide_eq_true hq.1
    have b2 : decide ((t : Int) < (S.length : Int)) = true := decide_eq_true h1
    clear hS e hq
    generalize (nd S t).u = x at *
    generalize S.length = n at *
    go_enter Try.func18, Try.ntmps18
    go_wp2
    go_ret
    exact ⟨rfl, (Below.refl _ _).alloc (Nat.le_refl _) _⟩
  · have e : usedB S q = false := by
      unfold usedB
      have : isPl S.length q = false := by
        unfold isPl
        exact decide_eq_false (by omega)
      rw [this]
      rfl
    rw [e]
    clear hS e
    generalize S.length = n at *
    by_cases h0 : 0 ≤ q
    · have h1 : ¬ q < (n : Int) := fun h => hq ⟨h0, h⟩
      have b1 : decide (0 ≤ q) = true := decide_eq_true h0
      have b2 : decide (q < (n : Int)) = false := decide_eq_false h1
      clear hq
      go_enter Try.func18, Try.ntmps18
      go_wp2
      go_ret
      exact ⟨rfl, (Below.refl _ _).alloc (Nat.le_refl _) _⟩
    · have b1 : decide (0 ≤ q) = false := decide_eq_false h0
      clear hq
      go_enter Try.func18, Try.ntmps18
      go_wp2
      go_ret
      exact ⟨rfl, (Below.refl _ _).alloc (Nat.le_refl _) _⟩
end Go.Proofs.Ytiekhgpnmcffiab
