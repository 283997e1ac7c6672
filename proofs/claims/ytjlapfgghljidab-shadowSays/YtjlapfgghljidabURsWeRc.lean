/-
  What the program and the reference answer alike: Attach, Seen, Path (for ShadowSays).
-/
import Derived.Test.YtjlapfgghljidabURq
import Derived.Test.YtjlapfgghljidabURr
import Derived.Test.YtjlapfgghljidabUZh
import Derived.Test.YtjlapfgghljidabUZe
import Derived.Test.YtjlapfgghljidabUZiZk
import Derived.Test.YtjlapfgghljidabUWbWdXa
import Derived.Test.YtjlapfgghljidabURzRaRbRhRdRe
namespace Go.Proofs.Ytjlapfgghljidab
open Go.RowKit

theorem tcheck_1h (S : List Nd) (p u : Int) : tcheckE S [(p, u)] = findE S p u := by
  unfold tcheckE findE handsE handsE
  by_cases h : holdsE S p u = 0
  · simp [h]
  · simp [h]

theorem tcheck_two (S : List Nd) (p u q v : Int) : tcheckE S [(p, u), (q, v)] = if findE S p u = 0 then findE S q v else findE S p u := by
  unfold tcheckE findE handsE handsE handsE
  by_cases hc : checkE S = 0
  · simp only [if_pos hc]
    by_cases h : holdsE S p u = 0
    · simp only [if_pos h]
      by_cases h2 : holdsE S q v = 0
      · simp [h2]
      · simp [h2]
    · simp [h]
  · simp [hc]

theorem nds_none (W : World) : NdsAt W none [] := fun _ hi => absurd hi (Nat.not_lt_zero _)

/-- What Attach and Attached answer. -/
abbrev AttAns (f : Nat) (S T : List Nd) (p u : Int) (cl : Bool) (kp ku E : Int) : Prop := ∀ (a : Option Addr) (c : Nat) W, NdsAt W a S →
  Calls Try.prog f #[.agg #[.slice a S.length c], .agg #[.int .i64 p, .int .i64 u], .bool cl] W fun e w' => ∃ a' c', e = .returned (.tuple #[.agg #[.slice a' T.length c'], .agg #[.int .i64 kp, .int .i64 ku], .int .i64 E]) ∧ Below W.heap.size W w' ∧ NdsAt w' a' T

theorem attach_both (S : List Nd) (p u : Int) (cl : Bool) (hN : S.length ≤ 9223372036854775807) (hB : Big S) (hC : ∀ a c, RChk a c S) :
    ∃ T kp ku E, T.length ≤ 9223372036854775807 ∧ Big T ∧ AttAns 25 S T p u cl kp ku E ∧ AttAns 28 S T p u cl kp ku E := by
  have big0 : Big [] := fun i hi => absurd hi (Nat.not_lt_zero _)
  by_cases hE : findE S p u = 0
  · obtain ⟨wf, k, rfl, hk, hku, hkn⟩ := find_used hE
    have hc : checkE S = 0 := (wf_iff S).2 wf
    have hks : ∀ i, i < S.length → (nd S i).ks.length ≤ 1000 := fun i hi => by have := wf.kids_small hi; omega
    have h0 : tcheckE S [((k : Int), u)] = 0 := by rw [tcheck_1h]; exact hE
    cases hH : hostB S k with
    | true =>
      obtain ⟨k1, hk1, hh1⟩ : ∃ k1, k1 < S.length ∧ (nd S k1).h = (k : Int) := by
        refine Classical.byContradiction fun hn => ?_
        have : hostB S (k : Int) = false := hostB_false.2 (fun i hi e => hn ⟨i, hi, e⟩)
        rw [hH] at this
        cases this
      refine ⟨[], 0, 0, 6, by simp, big0, fun a c W hW => ?_, fun a c W hW => ?_⟩
      · exact (attach_err2 a c S k u cl W wf hW hk hE hH).mono (fun e w' ⟨e1, hb⟩ => ⟨none, 0, e1, hb, nds_none _⟩)
      · exact (rAtt_err2 a c S (k : Int) u 6 cl W wf.small (hC a c) hW h0 k1 hk1 hh1 rfl).mono (fun e w' ⟨e1, hb⟩ => ⟨none, 0, e1, hb, nds_none _⟩)
    | false =>
      have hh := hostB_false.1 hH
      by_cases hM : makeE S 0 = 0
      · have hf : S.any freeB = true := by
          unfold makeE at hM
          rw [if_pos hc, if_pos (by omega)] at hM
          cases hq : S.any freeB with
          | true => rfl
          | false => rw [hq, if_neg (by simp)] at hM; omega
        obtain ⟨f, hf0, hf1, hf2⟩ := first_free hf
        have wf2 := wf.attach cl hf0 hf1 hk hku hH
        refine ⟨S.set f (rootNd (nd S f) k cl), f, (nd S f).n + 1, 0, by rw [List.length_set]; exact hN, wf2.big, fun a c W hW => ?_, fun a c W hW => ?_⟩
        · refine (attach_ok a c S k f u cl W wf hW hk hE hH hf0 hf1 hf2).mono (fun e w' ⟨g, e1, hb, _, ho⟩ => ⟨some ⟨g, 0, none⟩, S.length, ?_, hb, ho.nds⟩)
          rw [e1, List.length_set]
        · refine (rAtt_ok a c S k (k : Int) u cl W rfl wf.small (hC a c) hW h0 hh f hf0 (fun W2 hW2 => rMade_own a c S 0 W2 (hC a c) hW2 wf.small hks hc (by omega) (by omega) f hf0 hf1 (fun i hi => ⟨(wf.uses hi).1, (wf.uses hi).2.1⟩) hf2)).mono (fun e w' ⟨a', c', e1, hb, hn⟩ => ⟨a', c', ?_, hb, hn⟩)
          rw [e1, List.length_set]
      · refine ⟨[], 0, 0, makeE S 0, by simp, big0, fun a c W hW => ?_, fun a c W hW => ?_⟩
        · exact (attach_err3 a c S k u _ cl W wf hW hk hE hH rfl hM).mono (fun e w' ⟨e1, hb⟩ => ⟨none, 0, e1, hb, nds_none _⟩)
        · exact (rAtt_err3 a c S (k : Int) u _ cl W wf.small (hC a c) hW h0 hh (fun W2 hW2 => rMade_err a c S 0 _ W2 (hC a c) hW2 (fun _ => ⟨wf.small, hks, fun i hi => ⟨(wf.uses hi).1, (wf.uses hi).2.1⟩⟩) rfl hM) hM).mono (fun e w' ⟨e1, hb⟩ => ⟨none, 0, e1, hb, nds_none _⟩)
  · refine ⟨[], 0, 0, findE S p u, by simp, big0, fun a c W hW => ?_, fun a c W hW => ?_⟩
    · exact (attach_err1 a c S p u _ cl W hN hB hW rfl hE).mono (fun e w' ⟨e1, hb⟩ => ⟨none, 0, e1, hb, nds_none _⟩)
    · exact (rAtt_err1 a c S p u _ cl W hN (hC a c) hW (tcheck_1h S p u) hE).mono (fun e w' ⟨e1, hb⟩ => ⟨none, 0, e1, hb, nds_none _⟩)

/-- What Seen and SeenFrom answer. -/
abbrev SeenAns (f : Nat) (S : List Nd) (p u q v : Int) (B : Bool) (E : Int) : Prop := ∀ (a : Option Addr) (c : Nat) W, NdsAt W a S →
  Calls Try.prog f #[.agg #[.slice a S.length c], .agg #[.int .i64 p, .int .i64 u], .agg #[.int .i64 q, .int .i64 v]] W fun e w' => e = .returned (.tuple #[.bool B, .int .i64 E]) ∧ Below W.heap.size W w'

theorem seen_both (S : List Nd) (p u q v : Int) (hN : S.length ≤ 9223372036854775807) (hB : Big S) (hC : ∀ a c, RChk a c S) :
    ∃ B E, SeenAns 26 S p u q v B E ∧ SeenAns 29 S p u q v B E := by
  have ht := tcheck_two S p u q v
  by_cases h1 : findE S p u = 0
  · rw [if_pos h1] at ht
    obtain ⟨wf, k, rfl, hk, hu, _⟩ := find_used h1
    by_cases h2 : findE S q v = 0
    · obtain ⟨_, m, rfl, hm, hv, _⟩ := find_used h2
      exact ⟨seenF S k m, 0, fun a c W hW => seen_ok a c S k m u v W wf hW hk hm h1 h2, fun a c W hW => rSeen_ok a c S k m u v W wf.small (hC a c) hW hk hm (ht.trans h2)⟩
    · exact ⟨false, findE S q v, fun a c W hW => seen_err2 a c S k u q v _ W hN hB hW hk h1 (by have := wf.kids_small hk; omega) rfl h2, fun a c W hW => rSeen_err a c S k u q v _ W hN (hC a c) hW ht h2⟩
  · rw [if_neg h1] at ht
    exact ⟨false, findE S p u, fun a c W hW => seen_err1 a c S p u q v _ W hN hB hW rfl h1, fun a c W hW => rSeen_err a c S p u q v _ W hN (hC a c) hW ht h1⟩

set_option maxHeartbeats 1000000 in
theorem path_err (a : Option Addr) (c : Nat) (S : List Nd) (p u E : Int) (w : World) (hN : S.length ≤ 9223372036854775807) (hB : Big S) (hS : NdsAt w a S) (hE : findE S p u = E) (hE0 : E ≠ 0) :
    Calls Try.prog 27 #[.agg #[.slice a S.length c], .agg #[.int .i64 p, .int .i64 u]] w fun e w' => e = .returned (.tuple #[.slice none 0 0, .int .i64 E]) ∧ Below w.heap.size w w' := by
  have D0 : Hid (∀ W, NdsAt W a S → Calls _ _ _ _ _) := fun W hW => find_err a c S p u E W hN hB hW hE hE0
  have HS : Hid (NdsAt w a S) := hS
  have hz0 : (E == 0) = false := by simp [hE0]
  have hz1 : decide (E = 0) = false := decide_eq_false hE0
  clear hS hE hB hN
  generalize S.length = n at *
  go_enter Try.func27, Try.ntmps27
  go_wp2_with fail
  refine Calls.mono (D0.out _ (HS.out.below (two_below _ _ _))) ?_
  rintro e w2 ⟨rfl, hb2⟩
  simp only [World.size_alloc] at hb2
  have HB2 : Hid (Below w.heap.size w w2) := (two_below _ _ _).trans (hb2.mono (by omega))
  clear hb2
  go_wp2_with fail
  refine bodyPost_ret (v := .tuple #[.slice none 0 0, .int .i64 E]) (by simp [results, Try.results27, go_sem]) rfl ⟨rfl, ?_⟩
  first | exact HB2.out | exact HB2.out.alloc HB2.out.size _ | exact (HB2.out.alloc HB2.out.size _).drew

theorem path_all (S : List Nd) (p u : Int) (hN : S.length ≤ 9223372036854775807) (hB : Big S) :
    ∃ L : List Int, L.length ≤ 9223372036854775807 ∧ (findE S p u = 0 → ∃ k : Nat, p = k ∧ k < S.length ∧ L = pathF S k) ∧ (findE S p u ≠ 0 → L = []) ∧
    ∀ (a : Option Addr) (c : Nat) W, NdsAt W a S → Calls Try.prog 27 #[.agg #[.slice a S.length c], .agg #[.int .i64 p, .int .i64 u]] W fun e w' => ∃ a' c', e = .returned (.tuple #[.slice a' L.length c', .int .i64 (findE S p u)]) ∧ Below W.heap.size W w' ∧ IntsAt w' a' L := by
  by_cases hE : findE S p u = 0
  · obtain ⟨wf, k, rfl, hk, _, _⟩ := find_used hE
    refine ⟨pathF S k, by have := path_len S k; have := wf.small; omega, fun _ => ⟨k, rfl, hk, rfl⟩, fun h => absurd hE h, fun a c W hW => ?_⟩
    rw [hE]
    refine (path_ok a c S k u W wf hW hk hE).mono (fun e w' ⟨v, e1, hb, ho⟩ => ?_)
    obtain ⟨pa, pc, rfl, hi, _⟩ := own_slice ho
    exact ⟨pa, pc, e1, hb, hi⟩
  · exact ⟨[], by simp, fun h => absurd h hE, fun _ => rfl, fun a c W hW => (path_err a c S p u _ W hN hB hW rfl hE).mono (fun e w' ⟨e1, hb⟩ => ⟨none, 0, e1, hb, fun i hi => absurd hi (Nat.not_lt_zero _)⟩)⟩

/-- Is a place in use? (Of any number.) -/
def usedB (S : List Nd) (q : Int) : Bool := isPl S.length q && (nd S q.toNat).u

set_option maxHeartbeats 1000000 in
theorem used_all (a : Option Addr) (c : Nat) (S : List Nd) (q : Int) (w : World) (hS : NdsAt w a S) :
    Calls Try.prog 12 #[.agg #[.slice a S.length c], .int .i64 q] w fun e w' => e = .returned (.bool (usedB S q)) ∧ Below w.heap.size w w' := by
  by_cases hq : 0 ≤ q ∧ q < (S.length : Int)
  · obtain ⟨t, rfl⟩ : ∃ t : Nat, q = t := ⟨q.toNat, by omega⟩
    have ht : t < S.length := by omega
    obtain ⟨nb, no, rfl, c0, _⟩ := hS t ht
    have hnb := World.block_lt_of_cell? _ _ c0
    have e : usedB S (t : Int) = (nd S t).u := by
      unfold usedB
      rw [isPl_nat.2 ht, Int.toNat_natCast]
      rfl
    rw [e]
    have h1 : (t : Int) < (S.length : Int) := hq.2
    have b1 : decide ((0 : Int) ≤ (t : Int)) = true := decide_eq_true hq.1
    have b2 : decide ((t : Int) < (S.length : Int)) = true := decide_eq_true h1
    clear hS e hq
    generalize (nd S t).u = x at *
    generalize S.length = n at *
    go_enter Try.func12, Try.ntmps12
    go_wp2
    go_ret
    exact ⟨rfl, (Below.refl _ _).alloc (Nat.le_refl _) _⟩
  · have e : usedB S q = false := by
      unfold usedB
      have : isPl S.length q = false := by
        unfold isPl
        exact decide_eq_false (by omega)
      rw [this]
      rfl
    rw [e]
    clear hS e
    generalize S.length = n at *
    by_cases h0 : 0 ≤ q
    · have h1 : ¬ q < (n : Int) := fun h => hq ⟨h0, h⟩
      have b1 : decide (0 ≤ q) = true := decide_eq_true h0
      have b2 : decide (q < (n : Int)) = false := decide_eq_false h1
      clear hq
      go_enter Try.func12, Try.ntmps12
      go_wp2
      go_ret
      exact ⟨rfl, (Below.refl _ _).alloc (Nat.le_refl _) _⟩
    · have b1 : decide (0 ≤ q) = false := decide_eq_false h0
      clear hq
      go_enter Try.func12, Try.ntmps12
      go_wp2
      go_ret
      exact ⟨rfl, (Below.refl _ _).alloc (Nat.le_refl _) _⟩
end Go.Proofs.Ytjlapfgghljidab

namespace Go.Proofs.Ytjlapfgghljidab
open Go.RowKit

theorem nds_ext {S S' : List Nd} (hl : S.length = S'.length) (h : ∀ i, i < S.length → nd S i = nd S' i) : S = S' :=
  List.ext_getElem hl fun i hi hi' => by
    have := h i hi
    rwa [nd_elem hi, nd_elem hi'] at this

theorem nd_eq_iff (x y : Nd) : x = y ↔ (x.u = y.u ∧ x.n = y.n ∧ x.t = y.t ∧ x.m = y.m ∧ x.p = y.p ∧ x.ks = y.ks ∧ x.h = y.h ∧ x.c = y.c) := by
  constructor
  · rintro rfl
    exact ⟨rfl, rfl, rfl, rfl, rfl, rfl, rfl, rfl⟩
  · obtain ⟨a1, a2, a3, a4, a5, a6, a7, a8⟩ := x
    obtain ⟨b1, b2, b3, b4, b5, b6, b7, b8⟩ := y
    rintro ⟨rfl, rfl, rfl, rfl, rfl, rfl, rfl, rfl⟩
    rfl

theorem sameNode_eq (x y : Nd) (ka ka' : Option Addr) (kc kc' : Nat) (w : World) (hbig : x.ks.length ≤ 9223372036854775807) (h1 : IntsAt w ka x.ks) (h2 : IntsAt w ka' y.ks) :
    Calls Try.prog 106 #[.agg #[.bool x.u, .int .i64 x.n, .int .i64 x.t, .int .i64 x.m, .int .i64 x.p, .slice ka x.ks.length kc, .int .i64 x.h, .bool x.c], .agg #[.bool y.u, .int .i64 y.n, .int .i64 y.t, .int .i64 y.m, .int .i64 y.p, .slice ka' y.ks.length kc', .int .i64 y.h, .bool y.c]] w fun e w' => ∃ r : Bool, e = .returned (.bool r) ∧ Below w.heap.size w w' ∧ (r = true ↔ x = y) := by
  refine (sameNode_any x.u y.u x.n y.n x.t y.t x.m y.m x.p y.p x.ks y.ks ka ka' kc kc' x.h y.h x.c y.c w hbig h1 h2).mono ?_
  rintro e w' ⟨rfl, hb⟩
  exact ⟨_, rfl, hb, by rw [decide_eq_true_iff, nd_eq_iff]⟩

end Go.Proofs.Ytjlapfgghljidab

namespace Go.Proofs.Ytjlapfgghljidab
open Go.RowKit

set_option maxRecDepth 100000 in
set_option maxHeartbeats 4000000 in
theorem rSame_any (a a' : Option Addr) (c c' : Nat) (S S' : List Nd) (w : World) (hN : S.length ≤ 9223372036854775807) (hB : Big S) (h1 : NdsAt w a S) (h2 : NdsAt w a' S') :
    Calls Try.prog 31 #[.agg #[.slice a S.length c], .agg #[.slice a' S'.length c']] w fun e w' => ∃ r : Bool, e = .returned (.bool r) ∧ Below w.heap.size w w' ∧ (r = true ↔ S = S') := by
  by_cases hl : S.length = S'.length
  · have E1 : Hid ((∀ i, i < S.length → nd S i = nd S' i) → S = S') := fun h => nds_ext hl h
    have E2 : Hid (∀ i, nd S i ≠ nd S' i → S ≠ S') := fun i h e => h (by rw [e])
    have H1 : Hid (NdsAt w a S) := h1
    have H2 : Hid (NdsAt w a' S') := h2
    have HB : Hid (Big S) := hB
    have HL : Hid (S'.length = S.length) := hl.symm
    rw [← hl]
    clear h1 h2 hB hl
    generalize hn : S.length = n at *
    have HN : Hid _ := hn
    clear hn
    go_enter Try.func31, Try.ntmps31
    go_wp2
    go_loopg [18] n (fun g s18 wr => ∃ k : Nat, k ≤ n ∧ n - k ≤ g ∧ s18 = .int .i64 k ∧ Hid (Below (w.heap.size + 1 + 1) ((w.alloc (.cells #[.slice a n c] 24)).alloc (.cells #[.slice a' n c'] 24)) wr) ∧ Hid (∀ i, i < k → nd S i = nd S' i))
    case atStart => exact ⟨0, by omega, by omega, rfl, Below.refl _ _, fun i hi => by omega⟩
    case round =>
      obtain ⟨k, hk, hg, rfl, HBr, A⟩ := hrel
      have l0 : wr.cell? ⟨w.heap.size, 0, none⟩ = some (.slice a n c) := (HBr.out.cell (by simp; omega)).trans (by go_simp)
      have l1 : wr.cell? ⟨w.heap.size + 1, 0, none⟩ = some (.slice a' n c') := (HBr.out.cell (by simp)).trans (by go_simp)
      have r0 := World.block_lt_of_cell? _ _ l0
      have r1 := World.block_lt_of_cell? _ _ l1
      have HW : Hid (Below w.heap.size w wr) := (two_below _ _ _).trans (HBr.out.mono (by omega))
      have hsr := HBr.out.size
      simp only [World.size_alloc] at hsr
      by_cases hlt : k < n
      · have hlt2 : (k : Int) < (n : Int) := by omega
        obtain ⟨b, o, rfl, c0, c1, c2, c3, c4, ⟨ka, kc, c5, hk1⟩, c6, c7⟩ := (H1.out.below HW.out) k (by rw [HN.out]; exact hlt)
        obtain ⟨b', o', rfl, e0, e1, e2, e3, e4, ⟨ka', kc', e5, hk2⟩, e6, e7⟩ := (H2.out.below HW.out) k (by rw [HL.out]; exact hlt)
        have hbb := World.block_lt_of_cell? _ _ c0
        have hbb' := World.block_lt_of_cell? _ _ e0
        have d1 := fun o1 o2 => equal_any ka ka' kc kc' (nd S k).ks (nd S' k).ks ((wr.alloc o1).alloc o2) (HB.out k (by rw [HN.out]; exact hlt)) (hk1.below (two_below _ _ _)) (hk2.below (two_below _ _ _))
        have EK2 : Hid _ := E2.out k
        have KK : Hid (nd S k = nd S' k → ∀ i, i < k + 1 → nd S i = nd S' i) := fun h i hi => by
          by_cases e : i = k
          · subst e; exact h
          · exact A.out i (by omega)
        have HB2 : Hid (∀ o1 o2, Below w.heap.size w ((wr.alloc o1).alloc o2)) := fun o1 o2 => HW.out.trans ((two_below _ _ _).mono HW.out.size)
        have HBW : Hid (∀ o1 o2 w3, Below ((wr.alloc o1).alloc o2).heap.size ((wr.alloc o1).alloc o2) w3 → Below (w.heap.size + 1 + 1) ((w.alloc (.cells #[.slice (some ⟨b, o, none⟩) n c] 24)).alloc (.cells #[.slice (some ⟨b', o', none⟩) n c'] 24)) w3) := fun o1 o2 w3 hb3 => (HBr.out.trans ((two_below wr o1 o2).mono (by omega))).trans (hb3.mono (by simp; omega))
        clear hk1 hk2
        generalize nd S k = x at *
        generalize nd S' k = y at *
        obtain ⟨xu, xn, xt, xm, xp, xks, xh, xc⟩ := x
        obtain ⟨yu, yn, yt, ym, yp, yks, yh, yc⟩ := y
        dsimp only at *
        generalize hr : decide (xks = yks) = r at *
        have HR : Hid (r = true ↔ xks = yks) := by show _ ↔ _; rw [← hr]; exact decide_eq_true_iff
        have D1 : Hid _ := d1
        clear hr d1
        generalize xks.length = XL at *
        generalize yks.length = YL at *
        by_cases eu : xu = yu
        · subst eu
          by_cases en : xn = yn
          · subst en
            by_cases et : xt = yt
            · subst et
              by_cases em : xm = ym
              · subst em
                by_cases ep : xp = yp
                · subst ep
                  by_cases eh : xh = yh
                  · subst eh
                    by_cases ec : xc = yc
                    · subst ec
                      cases r with
                      | true =>
                        have HT : Hid (∀ i, i < k + 1 → nd S i = nd S' i) := KK.out (by rw [HR.out.1 rfl])
                        go_wp2_with (go_at_call 20; refine (D1.out _ _).mono ?_; rintro e w3 ⟨rfl, hb3⟩)
                        go_roundg (n - (k + 1))
                        case measure => omega
                        case rel => exact ⟨k + 1, by omega, by omega, by go_num, HBW.out _ _ _ hb3, HT⟩
                      | false =>
                        have HF : Hid (S ≠ S') := EK2.out (fun e => by have h := HR.out.2 (congrArg Nd.ks e); cases h)
                        go_wp2_with (go_at_call 20; refine (D1.out _ _).mono ?_; rintro e w3 ⟨rfl, hb3⟩)
                        go_ret
                        first | exact ⟨false, rfl, (two_below _ _ _).trans ((HBW.out _ _ _ hb3).mono (by omega)), ⟨fun h => (by cases h), fun h => absurd h HF.out⟩⟩ | exact Or.inl ⟨rfl, (two_below _ _ _).trans ((HBW.out _ _ _ hb3).mono (by omega)), HF.out⟩
                    · have HF : Hid (S ≠ S') := EK2.out (fun e => ec (congrArg Nd.c e))
                      cases xc <;> cases yc
                      · exact absurd rfl ec
                      · go_wp2
                        go_ret
                        first | exact ⟨false, rfl, HB2.out _ _, ⟨fun h => (by cases h), fun h => absurd h HF.out⟩⟩ | exact Or.inl ⟨rfl, HB2.out _ _, HF.out⟩
                      · go_wp2
                        go_ret
                        first | exact ⟨false, rfl, HB2.out _ _, ⟨fun h => (by cases h), fun h => absurd h HF.out⟩⟩ | exact Or.inl ⟨rfl, HB2.out _ _, HF.out⟩
                      · exact absurd rfl ec
                  · have HF : Hid (S ≠ S') := EK2.out (fun e => eh (congrArg Nd.h e))
                    have bh : (xh == yh) = false := beq_eq_false_iff_ne.2 eh
                    go_wp2
                    go_ret
                    first | exact ⟨false, rfl, HB2.out _ _, ⟨fun h => (by cases h), fun h => absurd h HF.out⟩⟩ | exact Or.inl ⟨rfl, HB2.out _ _, HF.out⟩
                · have HF : Hid (S ≠ S') := EK2.out (fun e => ep (congrArg Nd.p e))
                  have bp : (xp == yp) = false := beq_eq_false_iff_ne.2 ep
                  go_wp2
                  go_ret
                  first | exact ⟨false, rfl, HB2.out _ _, ⟨fun h => (by cases h), fun h => absurd h HF.out⟩⟩ | exact Or.inl ⟨rfl, HB2.out _ _, HF.out⟩
              · have HF : Hid (S ≠ S') := EK2.out (fun e => em (congrArg Nd.m e))
                have bm : (xm == ym) = false := beq_eq_false_iff_ne.2 em
                go_wp2
                go_ret
                first | exact ⟨false, rfl, HB2.out _ _, ⟨fun h => (by cases h), fun h => absurd h HF.out⟩⟩ | exact Or.inl ⟨rfl, HB2.out _ _, HF.out⟩
            · have HF : Hid (S ≠ S') := EK2.out (fun e => et (congrArg Nd.t e))
              have bt : (xt == yt) = false := beq_eq_false_iff_ne.2 et
              go_wp2
              go_ret
              first | exact ⟨false, rfl, HB2.out _ _, ⟨fun h => (by cases h), fun h => absurd h HF.out⟩⟩ | exact Or.inl ⟨rfl, HB2.out _ _, HF.out⟩
          · have HF : Hid (S ≠ S') := EK2.out (fun e => en (congrArg Nd.n e))
            have bn : (xn == yn) = false := beq_eq_false_iff_ne.2 en
            go_wp2
            go_ret
            first | exact ⟨false, rfl, HB2.out _ _, ⟨fun h => (by cases h), fun h => absurd h HF.out⟩⟩ | exact Or.inl ⟨rfl, HB2.out _ _, HF.out⟩
        · have HF : Hid (S ≠ S') := EK2.out (fun e => eu (congrArg Nd.u e))
          cases xu <;> cases yu
          · exact absurd rfl eu
          · go_wp2
            go_ret
            first | exact ⟨false, rfl, HB2.out _ _, ⟨fun h => (by cases h), fun h => absurd h HF.out⟩⟩ | exact Or.inl ⟨rfl, HB2.out _ _, HF.out⟩
          · go_wp2
            go_ret
            first | exact ⟨false, rfl, HB2.out _ _, ⟨fun h => (by cases h), fun h => absurd h HF.out⟩⟩ | exact Or.inl ⟨rfl, HB2.out _ _, HF.out⟩
          · exact absurd rfl eu
      · have : k = n := by omega
        subst this
        go_wp2
        go_ret
        first | exact ⟨true, rfl, HW.out, ⟨fun _ => E1.out A.out, fun _ => rfl⟩⟩ | exact Or.inr ⟨rfl, HW.out, E1.out A.out⟩
  · have hl' : ¬ ((S.length : Int) = (S'.length : Int)) := by omega
    have HNE : Hid (S ≠ S') := fun e => hl (by rw [e])
    clear h1 h2 hB
    generalize S.length = n at *
    generalize S'.length = n' at *
    go_enter Try.func31, Try.ntmps31
    go_wp2
    go_ret
    first | exact ⟨false, rfl, two_below _ _ _, ⟨fun h => (by cases h), fun h => absurd h HNE.out⟩⟩ | exact Or.inl ⟨rfl, two_below _ _ _, HNE.out⟩
end Go.Proofs.Ytjlapfgghljidab
