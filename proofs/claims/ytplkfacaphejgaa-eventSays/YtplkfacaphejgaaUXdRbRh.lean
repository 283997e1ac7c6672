/-
  Right stores, without the program: a node is made, a node is freed, and the store stays right.
-/
import Derived.Test.YtplkfacaphejgaaUXa
import Derived.Test.YtplkfacaphejgaaUWfUe
import Derived.Test.YtplkfacaphejgaaURaSlSmBkBoLay
import Derived.Test.YtplkfacaphejgaaURg
namespace Go.Proofs.Ytplkfacaphejgaa
open Go.RowKit

def freedNd (x : Nd) : Nd := ⟨false, x.n, 0, 0, -1, [], -1, false⟩

/-- Does nothing hang on the node? -/
def looseB (S : List Nd) (k : Nat) : Prop := rightUnder (nd S k) = -1 ∧ (nd S k).ks = [] ∧ hostB S k = false

/-- A store with the same Parents, Kids and Hosts, in which those are in use that something names. -/
theorem WF.like {S A : List Nd} (h : WF S) (hl : A.length = S.length) (hn : ∀ i, i < S.length → nodeE S.length (nd A i) = 0)
    (hs : ∀ i, i < S.length → (nd A i).p = (nd S i).p ∧ (nd A i).ks = (nd S i).ks ∧ (nd A i).h = (nd S i).h)
    (hu : ∀ i, i < S.length → (nd S i).u = true → (nd A i).u = true ∨ ∀ j, j < S.length → (i : Int) ∉ (nd S j).ks ∧ (nd S j).h ≠ i) : WF A := by
  refine ⟨by rw [hl]; exact h.small, fun i hi => by rw [hl] at hi ⊢; exact hn i hi, kidsOk_of (fun i hi => ?_) (fun i hi x hx => ?_) (fun j hj hjp => ?_), fun i hi => ?_, fun i hi => ?_⟩
  · rw [hl] at hi
    rw [(hs i hi).2.1]
    exact h.kids_nodup hi
  · rw [hl] at hi ⊢
    rw [(hs i hi).2.1] at hx
    obtain ⟨k, rfl, k1, k2, k3, _⟩ := h.kid hi hx
    refine ⟨k, rfl, k1, ?_, by rw [(hs k k1).1]; exact k3⟩
    rcases hu k k1 k2 with g | g
    · exact g
    · exact absurd hx (g i hi).1
  · rw [hl] at hj ⊢
    rw [(hs j hj).1] at hjp
    obtain ⟨i, i1, i2, _, i3, _⟩ := h.parent_place hj hjp
    exact ⟨i, i2, by rw [(hs i i2).2.1]; exact i3⟩
  · rw [hl] at hi
    intro hh
    rw [(hs i hi).2.2] at hh ⊢
    obtain ⟨g1, g2⟩ := h.hosts i hi hh
    have hb := (names_ks (names_of (h.node i hi))).2.1
    obtain ⟨q, hq⟩ : ∃ q : Nat, (nd S i).h = (q : Int) := ⟨(nd S i).h.toNat, by omega⟩
    refine ⟨?_, fun i' hi' => by rw [(hs i' (by omega)).2.2]; exact g2 i' hi'⟩
    rw [hq, Int.toNat_natCast] at g1 ⊢
    rcases hu q (by omega) g1 with g | g
    · exact g
    · exact absurd hq (g i hi).2
  · rw [hl] at hi
    cases hb : underB A i i with
    | false => rfl
    | true =>
      obtain ⟨j, j1, j2, j3⟩ := under_up (by rw [hl]; exact hi) hb
      rw [hl] at j2
      exact absurd (up_same hl (fun y hy z e => by unfold rightUnder at e ⊢; rw [(hs y hy).1, (hs y hy).2.2] at e; exact e) hi j3) (h.no_ring hi j1 j2)

theorem WF.unused {S : List Nd} (h : WF S) {k : Nat} (hk : k < S.length) (hu : (nd S k).u = false) : (nd S k).t = 0 ∧ (nd S k).m = 0 ∧ (nd S k).p = -1 ∧ (nd S k).ks = [] ∧ (nd S k).h = -1 ∧ (nd S k).c = false := by
  have hf := (node_parts (h.node k hk)).2.2
  unfold formB at hf
  rw [hu] at hf
  exact of_decide_eq_true hf

theorem WF.uses {S : List Nd} (h : WF S) {k : Nat} (hk : k < S.length) : 0 ≤ (nd S k).n ∧ (nd S k).n ≤ 1000000 ∧ ((nd S k).u = true → 1 ≤ (nd S k).n) := by
  obtain ⟨h1, _, h3⟩ := node_parts (h.node k hk)
  unfold rangeB at h1
  simp only [Bool.and_eq_true, decide_eq_true_eq] at h1
  refine ⟨h1.1.1, h1.1.2, fun hu => ?_⟩
  unfold formB at h3
  rw [if_pos hu] at h3
  by_cases e : (nd S k).n = 0
  · rw [if_pos e] at h3
    cases h3
  · have := h1.1.1
    omega

theorem free_parts {x : Nd} (h : freeB x = true) : x.u = false ∧ x.n < 1000000 := by
  unfold freeB at h
  simpa using h

theorem WF.make {S : List Nd} (h : WF S) {k : Nat} {t : Int} (hk : k < S.length) (hf : freeB (nd S k) = true) (ht0 : 0 ≤ t) (ht1 : t ≤ 99) : WF (S.set k (madeNd (nd S k) t)) := by
  obtain ⟨hu, hn⟩ := free_parts hf
  obtain ⟨q1, q2, q3, q4, q5, q6⟩ := h.unused hk hu
  obtain ⟨n0, n1, _⟩ := h.uses hk
  refine h.like (by simp) (fun i hi => ?_) (fun i hi => ?_) (fun i hi hiu => ?_)
  · rw [nd_set S k i _ hk]
    split
    · rename_i e
      subst e
      obtain ⟨r1, r2, r3⟩ := node_parts (h.node i hi)
      obtain ⟨m1, m2, m3⟩ := names_parts r2
      refine node_of ?_ (names_mk m1 m2 m3) ?_
      · unfold rangeB madeNd
        simp only [Bool.and_eq_true, decide_eq_true_eq]
        exact ⟨⟨by omega, by omega⟩, ⟨ht0, ht1⟩, by rw [q2]; omega, by rw [q2]; omega⟩
      · unfold formB madeNd
        simp only [if_true]
        rw [if_neg (by omega), if_pos q5, q6]
        rfl
    · exact h.node i hi
  · rw [nd_set S k i _ hk]
    split
    · rename_i e
      subst e
      exact ⟨rfl, rfl, rfl⟩
    · exact ⟨rfl, rfl, rfl⟩
  · rw [nd_set S k i _ hk]
    split
    · exact Or.inl rfl
    · exact Or.inl hiu

theorem loose_parts {S : List Nd} {k : Nat} (h : looseB S k) : (nd S k).p = -1 ∧ (nd S k).h = -1 ∧ (nd S k).ks = [] ∧ ∀ j, j < S.length → (nd S j).h ≠ k := by
  obtain ⟨h1, h2, h3⟩ := h
  unfold rightUnder at h1
  by_cases e : (nd S k).h = -1
  · rw [if_pos e] at h1
    exact ⟨h1, e, h2, hostB_false.1 h3⟩
  · rw [if_neg e] at h1
    exact absurd h1 e

theorem WF.free {S : List Nd} (h : WF S) {k : Nat} (hk : k < S.length) (hL : looseB S k) : WF (S.set k (freedNd (nd S k))) := by
  obtain ⟨hp, hh, hks, hH⟩ := loose_parts hL
  obtain ⟨n0, n1, _⟩ := h.uses hk
  refine h.like (by simp) (fun i hi => ?_) (fun i hi => ?_) (fun i hi hiu => ?_)
  · rw [nd_set S k i _ hk]
    split
    · rename_i e
      subst e
      refine node_of ?_ (names_mk ?_ ?_ (fun y hy => absurd hy (by simp [freedNd]))) ?_
      · unfold rangeB freedNd
        simp only [Bool.and_eq_true, decide_eq_true_eq]
        exact ⟨⟨n0, n1⟩, by omega, by omega⟩
      · unfold freedNd okPl
        exact decide_eq_true ⟨by dsimp only; omega, by dsimp only; omega⟩
      · unfold freedNd okPl
        exact decide_eq_true ⟨by dsimp only; omega, by dsimp only; omega⟩
      · unfold formB freedNd
        simp
    · exact h.node i hi
  · rw [nd_set S k i _ hk]
    split
    · rename_i e
      subst e
      exact ⟨hp.symm, hks.symm, hh.symm⟩
    · exact ⟨rfl, rfl, rfl⟩
  · by_cases e : i = k
    · subst e
      exact Or.inr (fun j hj => ⟨h.not_kid hp hj, hH j hj⟩)
    · rw [nd_set S k i _ hk, if_neg e]
      exact Or.inl hiu

theorem wf_new (n : Nat) (hn : n ≤ 24) : WF (List.replicate n unusedNd) := by
  have hnd : ∀ i, i < n → nd (List.replicate n unusedNd) i = unusedNd := fun i hi => nd_replicate n i _ hi
  have hl : (List.replicate n unusedNd).length = n := by simp
  refine ⟨by rw [hl]; exact hn, fun i hi => ?_, kidsOk_of (fun i hi => ?_) (fun i hi x hx => ?_) (fun j hj hjp => ?_), fun i hi => ?_, fun i hi => ?_⟩
  · rw [hl] at hi ⊢
    rw [hnd i hi]
    refine node_of (by decide) (names_mk ?_ ?_ (fun y hy => absurd hy (by simp [unusedNd]))) (by decide)
    · unfold unusedNd okPl
      exact decide_eq_true ⟨by dsimp only; omega, by dsimp only; omega⟩
    · unfold unusedNd okPl
      exact decide_eq_true ⟨by dsimp only; omega, by dsimp only; omega⟩
  · rw [hl] at hi
    rw [hnd i hi]
    exact List.nodup_nil
  · rw [hl] at hi
    rw [hnd i hi] at hx
    cases hx
  · rw [hl] at hj
    rw [hnd j hj] at hjp
    exact absurd rfl hjp
  · rw [hl] at hi
    intro hh
    rw [hnd i hi] at hh
    exact absurd rfl hh
  · cases hb : underB (List.replicate n unusedNd) i i with
    | false => rfl
    | true =>
      obtain ⟨j, j1, j2, j3⟩ := under_up hi hb
      obtain ⟨j', rfl⟩ : ∃ j', j = j' + 1 := ⟨j - 1, by omega⟩
      obtain ⟨z, _, hz, _⟩ := j3
      rw [hl] at hi
      rw [hnd i hi] at hz
      have : (-1 : Int) = (z : Int) := hz
      omega
end Go.Proofs.Ytplkfacaphejgaa

namespace Go.Proofs.Ytplkfacaphejgaa
open Go.RowKit

set_option maxHeartbeats 2000000 in
theorem rHolds_any (a : Option Addr) (c : Nat) (S : List Nd) (p u : Int) (w : World) (hN : S.length ≤ 9223372036854775807) (hS : NdsAt w a S) :
    Calls Try.prog 32 #[.agg #[.slice a S.length c], .agg #[.int .i64 p, .int .i64 u]] w fun e w' => e = .returned (.int .i64 (holdsE S p u)) ∧ Below w.heap.size w w' := by
  unfold holdsE
  have d1 := rin_any p 0 ((S.length : Int) - 1)
  rw [show decide (0 ≤ p ∧ p ≤ (S.length : Int) - 1) = isPl S.length p from rfl] at d1
  cases hq : isPl S.length p with
  | false =>
    rw [hq] at d1
    simp only [Bool.false_eq_true, if_false]
    generalize S.length = n at *
    clear hS
    go_enter Try.func32, Try.ntmps32
    go_wp2_with fail
    go_big_quiet ((go_at_call 54; exact Calls.quiet_of_same (d1 _)))
    go_wp2
    go_ret
    exact ⟨rfl, Below.drewNs (((Below.refl _ _).alloc (Nat.le_refl _) _).alloc (by simp) _) _⟩
  | true =>
    rw [hq] at d1
    simp only [if_true]
    have hq' : 0 ≤ p ∧ p ≤ (S.length : Int) - 1 := of_decide_eq_true hq
    clear hq
    obtain ⟨k, rfl⟩ : ∃ k : Nat, p = (k : Int) := ⟨p.toNat, by omega⟩
    have hk : k < S.length := by omega
    have hk2 : (k : Int) < (S.length : Int) := by omega
    simp only [Int.toNat_natCast]
    obtain ⟨b, o, rfl, c0, c1, c2, c3, c4, ⟨ka, kc, c5, _⟩, c6, c7⟩ := hS k hk
    have hbw : b < w.heap.size := World.block_lt_of_cell? w ⟨b, o + k * 8, none⟩ c0
    clear hS hq'
    generalize nd S k = x at *
    unfold holdX
    obtain ⟨xu, xn, xt, xm, xp, xks, xh, xc⟩ := x
    dsimp only at *
    generalize xks.length = kl at *
    generalize S.length = n at *
    have d2 := rin_any u 1 xn
    generalize hb1 : decide (1 ≤ u ∧ u ≤ xn) = b1 at *
    cases b1 with
    | false =>
      clear hb1
      simp only [Bool.false_eq_true, if_false]
      go_enter Try.func32, Try.ntmps32
      go_wp2_with fail
      go_big_quiet ((first | (go_at_call_of 54 (Value.int .i64 0); exact Calls.quiet_of_same (d1 _)) | (go_at_call_of 54 (Value.int .i64 1); exact Calls.quiet_of_same (d2 _))))
      go_wp2
      go_ret
      exact ⟨rfl, Below.drewNs (((Below.refl _ _).alloc (Nat.le_refl _) _).alloc (by simp) _) _⟩
    | true =>
      have hb2 : 1 ≤ u ∧ u ≤ xn := of_decide_eq_true hb1
      clear hb1
      simp only [if_true]
      cases xu with
      | false =>
        simp only [Bool.false_eq_true, if_false]
        go_enter Try.func32, Try.ntmps32
        go_wp2_with fail
        go_big_quiet ((first | (go_at_call_of 54 (Value.int .i64 0); exact Calls.quiet_of_same (d1 _)) | (go_at_call_of 54 (Value.int .i64 1); exact Calls.quiet_of_same (d2 _))))
        go_wp2
        go_big_quiet (fail)
        go_wp2
        go_ret
        exact ⟨rfl, Below.drewNs (Below.drewNs (((Below.refl _ _).alloc (Nat.le_refl _) _).alloc (by simp) _) _) _⟩
      | true =>
        simp only [if_true]
        by_cases he : xn = u
        · subst he
          simp only [if_true]
          have hlt : decide (xn < xn) = false := decide_eq_false (by omega)
          go_enter Try.func32, Try.ntmps32
          go_wp2_with fail
          go_big_quiet ((first | (go_at_call_of 54 (Value.int .i64 0); exact Calls.quiet_of_same (d1 _)) | (go_at_call_of 54 (Value.int .i64 1); exact Calls.quiet_of_same (d2 _))))
          go_wp2
          go_big_quiet (fail)
          go_wp2
          go_ret
          exact ⟨rfl, Below.drewNs (Below.drewNs (((Below.refl _ _).alloc (Nat.le_refl _) _).alloc (by simp) _) _) _⟩
        · simp only [if_neg he]
          have hlt : decide (u < xn) = true := decide_eq_true (by omega)
          go_enter Try.func32, Try.ntmps32
          go_wp2_with fail
          go_big_quiet ((first | (go_at_call_of 54 (Value.int .i64 0); exact Calls.quiet_of_same (d1 _)) | (go_at_call_of 54 (Value.int .i64 1); exact Calls.quiet_of_same (d2 _))))
          go_wp2
          go_big_quiet (fail)
          go_wp2
          go_ret
          exact ⟨rfl, Below.drewNs (Below.drewNs (((Below.refl _ _).alloc (Nat.le_refl _) _).alloc (by simp) _) _) _⟩
end Go.Proofs.Ytplkfacaphejgaa

namespace Go.Proofs.Ytplkfacaphejgaa
open Go.RowKit

/-- What is asked of the reference's Check (its contract: rCheck_few, rCheck_many). -/
def RChk (a : Option Addr) (c : Nat) (S : List Nd) : Prop := ∀ W, NdsAt W a S → Calls Try.prog 31 #[.agg #[.slice a S.length c]] W fun e w' => e = .returned (.int .i64 (checkE S)) ∧ Below W.heap.size W w'

def restE (S : List Nd) (e : Int) (l : List (Int × Int)) : Int := if e = 0 then handsE S l else e

set_option maxHeartbeats 2000000 in
theorem rFirst_any (a : Option Addr) (c : Nat) (S : List Nd) (ha : Option Addr) (hc : Nat) (hs : List (Int × Int)) (w : World) (hN : S.length ≤ 9223372036854775807) (hC : RChk a c S) (hS : NdsAt w a S) (hL : hs.length ≤ 9223372036854775807) (hH : HandsAt w ha hs) :
    Calls Try.prog 19 #[.agg #[.slice a S.length c], .slice ha hs.length hc] w fun e w' => e = .returned (.int .i64 (tcheckE S hs)) ∧ Below w.heap.size w w' := by
  have dc : Hid _ := hC
  have dh := fun (p u : Int) (W : World) (hW : NdsAt W a S) => rHolds_any a c S p u W hN hW
  have DH : Hid _ := dh
  have HS : Hid (NdsAt w a S) := hS
  have HH : Hid (HandsAt w ha hs) := hH
  have R0 : Hid (tcheckE S hs = restE S (checkE S) (hs.drop 0)) := (rfl : tcheckE S hs = restE S (checkE S) (hs.drop 0))
  clear hS hH dh hC
  unfold RChk at dc
  generalize tcheckE S hs = RES at *
  generalize checkE S = E0 at *
  generalize hn : S.length = n at *
  generalize hm : hs.length = m at *
  have HM : Hid (hs.length = m) := hm
  clear hm hn
  go_enter Try.func19, Try.ntmps19
  go_wp2_with (go_at_call 31; refine (dc.out _ (HS.out.below ((Below.refl _ _).alloc (Nat.le_refl _) _))).mono ?_; rintro e w1 ⟨rfl, hb1⟩)
  have lb : w1.cell? ⟨w.heap.size, 0, none⟩ = some (.slice a n c) := store_low (by simpa using hb1)
  have hB1 : Below w.heap.size w w1 := ((Below.refl _ _).alloc (Nat.le_refl _) _).trans (hb1.mono (by simp))
  clear hb1 dc
  go_loopg [5, 12] m (fun g s5 s12 wr => ∃ (k : Nat) (ev : Int), k ≤ m ∧ m - k ≤ g ∧ s5 = .int .i64 ev ∧ s12 = .int .i64 k ∧ Below w.heap.size w wr ∧ wr.cell? ⟨w.heap.size, 0, none⟩ = some (.slice a n c) ∧ Hid (RES = restE S ev (hs.drop k)))
  case atStart => exact ⟨0, E0, by omega, by omega, rfl, rfl, hB1, lb, R0⟩
  case round =>
    obtain ⟨k, ev, hk, hg, rfl, rfl, hb, lb2, A⟩ := hrel
    have hlb := World.block_lt_of_cell? _ _ lb2
    clear lb hB1 R0
    by_cases hlt : k < m
    · obtain ⟨b, o, rfl, c0, c1⟩ := (HH.out.below hb) k (by rw [HM.out]; exact hlt)
      have hbw := World.block_lt_of_cell? _ _ c0
      have EQ := A.out
      rw [drop_cons (d := (0, 0)) (by rw [HM.out]; exact hlt)] at EQ
      simp only [restE, handsE] at EQ
      generalize (hs.getD k (0, 0)).1 = p at *
      generalize (hs.getD k (0, 0)).2 = u at *
      have d1 := fun W hW => DH.out p u W hW
      have HB : Hid (∀ o1, NdsAt (wr.alloc o1) a S) := fun o1 => (HS.out.below hb).below ((Below.refl _ _).alloc (Nat.le_refl _) _)
      generalize holdsE S p u = hv at *
      by_cases hz : ev = 0
      · subst hz
        rw [if_pos rfl] at EQ
        have E2 : Hid (RES = restE S hv (hs.drop (k + 1))) := EQ
        clear EQ
        go_wp2_with (go_at_call 32; refine (d1 _ (HB.out _)).mono ?_; rintro e w2 ⟨rfl, hb2⟩)
        go_roundg (m - (k + 1))
        case measure => omega
        case rel =>
          have hb3 : Below wr.heap.size wr w2 := ((Below.refl _ _).alloc (Nat.le_refl _) _).trans (hb2.mono (by simp))
          exact ⟨k + 1, hv, by omega, by omega, rfl, by go_num, hb.trans (hb3.mono hb.size), (hb3.cell hlb).trans lb2, E2⟩
      · rw [if_neg hz] at EQ
        have hz2 : (ev == 0) = false := by simp [hz]
        have E2 : Hid (RES = restE S ev (hs.drop (k + 1))) := (by rw [EQ, restE, if_neg hz] : RES = restE S ev (hs.drop (k + 1)))
        clear EQ
        go_wp2_with fail
        go_roundg (m - (k + 1))
        case measure => omega
        case rel =>
          have hb3 : Below wr.heap.size wr (wr.alloc (.cells #[.int .i64 p, .int .i64 u] 27)) := ((Below.refl wr.heap.size wr).alloc (Nat.le_refl _) _)
          exact ⟨k + 1, ev, by omega, by omega, rfl, by go_num, hb.trans (hb3.mono hb.size), (hb3.cell hlb).trans lb2, E2⟩
    · have : k = m := by omega
      subst this
      have EQ := A.out
      rw [← HM.out, List.drop_length] at EQ
      have E2 : RES = ev := by
        rw [EQ, restE]
        split
        · next h => rw [h]; rfl
        · rfl
      subst E2
      clear EQ A
      go_wp2
      go_ret
      exact ⟨rfl, hb⟩
end Go.Proofs.Ytplkfacaphejgaa
