/-
  Right stores, without the program: no way down is longer than there are places; the order of what stands under a node.
-/
import Derived.Test.YtfaaijoneaompaaGreatJSkSl
import Derived.Test.YtfaaijoneaompaaGreatJUbWb
import Derived.Test.YtfaaijoneaompaaGreatJTk
namespace Go.Proofs.YtfaaijoneaompaaGreat
open Go.RowKit

/-- A right store. -/
structure WF (S : List Nd) : Prop where
  small : S.length ≤ 24
  node : ∀ i, i < S.length → nodeE S.length (nd S i) = 0
  kids : KidsOk S
  hosts : HostU S S.length
  noring : ∀ i, i < S.length → underB S i i = false

theorem firstE_zero (N : Int) : ∀ l : List Nd, firstE N l = 0 ↔ ∀ x ∈ l, nodeE N x = 0
  | [] => by simp [firstE]
  | x :: r => by
    simp only [firstE, List.mem_cons]
    by_cases h : nodeE N x = 0
    · rw [if_pos h, firstE_zero N r]
      exact ⟨fun H y hy => hy.elim (fun e => by rw [e]; exact h) (H y), fun H y hy => H y (Or.inr hy)⟩
    · rw [if_neg h]
      exact ⟨fun H => absurd H h, fun H => absurd (H x (Or.inl rfl)) h⟩

theorem wf_iff (S : List Nd) : checkE S = 0 ↔ WF S := by
  unfold checkE treeE ringB
  constructor
  · intro h
    split at h
    · omega
    · rename_i h24
      split at h
      · rename_i h1
        rw [firstE_zero] at h1
        split at h
        · rename_i h2
          split at h
          · rename_i h3
            split at h
            · omega
            · rename_i h4
              refine ⟨by omega, fun i hi => h1 _ (by rw [nd_elem hi]; exact List.getElem_mem hi), of_decide_eq_true h2, of_decide_eq_true h3, fun i hi => ?_⟩
              simp only [Bool.not_eq_true, List.any_eq_false, List.mem_range] at h4
              have := h4 i hi
              simpa using this
          · omega
        · omega
      · exact absurd h (by assumption)
  · rintro ⟨h0, h1, h2, h3, h4⟩
    rw [if_neg (by omega), if_pos ((firstE_zero _ _).2 fun x hx => by
      obtain ⟨i, hi, rfl⟩ := List.getElem_of_mem hx
      have := h1 i hi
      rwa [nd_elem hi] at this), if_pos (decide_eq_true h2), if_pos (decide_eq_true h3), if_neg]
    simp only [Bool.not_eq_true, List.any_eq_false, List.mem_range]
    intro i hi
    rw [h4 i hi]

theorem node_parts {N : Int} {x : Nd} (h : nodeE N x = 0) : rangeB x = true ∧ namesB N x = true ∧ formB x = true := by
  unfold nodeE at h
  split at h
  · split at h
    · split at h
      · exact ⟨by assumption, by assumption, by assumption⟩
      · omega
    · omega
  · omega

theorem WF.kid {S : List Nd} (h : WF S) {i : Nat} (hi : i < S.length) {x : Int} (hx : x ∈ (nd S i).ks) :
    ∃ k : Nat, x = k ∧ k < S.length ∧ (nd S k).u = true ∧ (nd S k).p = i ∧ rightUnder (nd S k) = i := by
  have h1 := (names_ks (names_of (h.node i hi))).1 x hx
  obtain ⟨h2, h3, h4⟩ := h.kids.1 i hi x hx
  obtain ⟨k, rfl⟩ : ∃ k : Nat, x = (k : Int) := ⟨x.toNat, by omega⟩
  have hk : k < S.length := by omega
  simp only [Int.toNat_natCast] at h3 h4
  refine ⟨k, rfl, hk, h3, h4, ?_⟩
  have hf := (node_parts (h.node k hk)).2.2
  unfold formB at hf
  rw [if_pos h3] at hf
  unfold rightUnder
  split at hf
  · cases hf
  · split at hf
    · rename_i hh
      rw [if_pos hh]; exact h4
    · have := of_decide_eq_true hf
      omega

/-- x climbs to p in so many steps, all of them places. -/
def Up (S : List Nd) : Nat → Nat → Nat → Prop
  | 0, x, p => x = p
  | j + 1, x, p => ∃ y : Nat, y < S.length ∧ rightUnder (nd S x) = y ∧ Up S j y p

theorem Up.det {S : List Nd} : ∀ {j x p q : Nat}, Up S j x p → Up S j x q → p = q
  | 0, _, _, _, h, k => by cases h; cases k; rfl
  | j + 1, _, _, _, ⟨y, _, h2, h3⟩, ⟨y', _, k2, k3⟩ => by
    have : y = y' := by omega
    subst this
    exact Up.det h3 k3

theorem Up.trans {S : List Nd} : ∀ {i j x y z : Nat}, Up S i x y → Up S j y z → Up S (i + j) x z
  | 0, j, _, _, _, h, k => by cases h; simpa using k
  | i + 1, j, _, _, _, ⟨y', h1, h2, h3⟩, k => by
    rw [show i + 1 + j = (i + j) + 1 by omega]
    exact ⟨y', h1, h2, Up.trans h3 k⟩

theorem Up.split {S : List Nd} : ∀ {i j x z : Nat}, Up S (i + j) x z → ∃ y, Up S i x y ∧ Up S j y z
  | 0, j, x, _, h => ⟨x, rfl, by simpa using h⟩
  | i + 1, j, x, z, h => by
    rw [show i + 1 + j = (i + j) + 1 by omega] at h
    obtain ⟨y', h1, h2, h3⟩ := h
    obtain ⟨y, k1, k2⟩ := Up.split h3
    exact ⟨y, ⟨y', h1, h2, k1⟩, k2⟩

theorem climb_up {S : List Nd} : ∀ {j x above f : Nat} (st : Bool), Up S (j + 1) x above → j + 1 ≤ f → climbF S rightUnder (underStep above) f (rightUnder (nd S x)) st = true
  | j, x, above, 0, _, _, hf => by omega
  | j, x, above, f + 1, st, ⟨y, h1, h2, h3⟩, hf => by
    rw [h2]
    have hp : isPl S.length (y : Int) = true := decide_eq_true ⟨by omega, by omega⟩
    simp only [climbF, hp, if_true, underStep, Int.toNat_natCast]
    by_cases e : (y : Int) = (above : Int)
    · simp [e]
    · simp only [decide_eq_false e, Bool.not_false, if_true]
      cases j with
      | zero => exact absurd (by cases h3; rfl) e
      | succ j => exact climb_up _ h3 (by omega)

theorem WF.no_ring {S : List Nd} (h : WF S) {x j : Nat} (hx : x < S.length) (h1 : 1 ≤ j) (h2 : j ≤ S.length) : ¬ Up S j x x := fun hu => by
  obtain ⟨j, rfl⟩ : ∃ i, j = i + 1 := ⟨j - 1, by omega⟩
  have := h.noring x hx
  unfold underB at this
  have hp : isPl S.length (x : Int) = true := decide_eq_true ⟨by omega, by omega⟩
  rw [hp, if_pos rfl, Int.toNat_natCast, climb_up false hu h2] at this
  cases this

theorem WF.up_one {S : List Nd} {i k : Nat} (hi : i < S.length) (hr : rightUnder (nd S k) = i) : Up S 1 k i := ⟨i, hi, hr, rfl⟩

theorem nodup_le {N : Nat} {l : List Nat} (h : l.Nodup) (hl : ∀ y ∈ l, y < N) : l.length ≤ N := by
  have := h.length_le_of_subset (l₂ := List.range N) (fun y hy => List.mem_range.2 (hl y hy))
  simpa using this

theorem WF.deep {S : List Nd} (h : WF S) : ∀ (f x : Nat) (r : List Nat), x < S.length → (x :: r).Nodup → (∀ y ∈ r, y < S.length) → (∀ y ∈ r, ∃ j, 1 ≤ j ∧ j ≤ r.length ∧ Up S j x y) → S.length ≤ f + r.length + 1 → Deep S f x := by
  have step : ∀ (x : Nat) (r : List Nat), x < S.length → (x :: r).Nodup → (∀ y ∈ r, y < S.length) → (∀ y ∈ r, ∃ j, 1 ≤ j ∧ j ≤ r.length ∧ Up S j x y) → ∀ k : Nat, k < S.length → rightUnder (nd S k) = x →
      (k :: x :: r).Nodup ∧ (∀ y ∈ x :: r, y < S.length) ∧ (∀ y ∈ x :: r, ∃ j, 1 ≤ j ∧ j ≤ (x :: r).length ∧ Up S j k y) := fun x r hx hn hr hu k hk hrk => by
    have hall : ∀ y ∈ x :: r, y < S.length := fun y hy => by
      rcases List.mem_cons.1 hy with rfl | hy
      · exact hx
      · exact hr y hy
    have hlen := nodup_le hn hall
    have hup : ∀ y ∈ x :: r, ∃ j, 1 ≤ j ∧ j ≤ (x :: r).length ∧ Up S j k y := fun y hy => by
      rcases List.mem_cons.1 hy with rfl | hy
      · exact ⟨1, by omega, by simp, WF.up_one hx hrk⟩
      · obtain ⟨j, j1, j2, j3⟩ := hu y hy
        exact ⟨1 + j, by omega, by simp; omega, (WF.up_one hx hrk).trans j3⟩
    refine ⟨List.nodup_cons.2 ⟨fun hm => ?_, hn⟩, hall, hup⟩
    obtain ⟨j, j1, j2, j3⟩ := hup k hm
    exact h.no_ring hk j1 (by omega) j3
  intro f
  induction f with
  | zero =>
    intro x r hx hn hr hu hf
    show (nd S x).ks = []
    cases hks : (nd S x).ks with
    | nil => rfl
    | cons k ks =>
      obtain ⟨k', rfl, hk, _, _, hrk⟩ := h.kid hx (x := k) (by rw [hks]; simp)
      obtain ⟨h1, h2, h3⟩ := step x r hx hn hr hu k' hk hrk
      have := nodup_le h1 (fun y hy => by
        rcases List.mem_cons.1 hy with rfl | hy
        · exact hk
        · exact h2 y hy)
      simp at this
      omega
  | succ f ih =>
    intro x r hx hn hr hu hf k hk
    obtain ⟨k', rfl, hk', _, _, hrk⟩ := h.kid hx hk
    obtain ⟨h1, h2, h3⟩ := step x r hx hn hr hu k' hk' hrk
    refine ⟨⟨by omega, by omega⟩, ?_⟩
    rw [Int.toNat_natCast]
    exact ih k' (x :: r) hk' h1 h2 h3 (by simp; omega)

theorem WF.deep_all {S : List Nd} (h : WF S) {p : Nat} (hp : p < S.length) : Deep S S.length p :=
  h.deep S.length p [] hp (by simp) (fun y hy => by cases hy) (fun y hy => by cases hy) (by omega)
end Go.Proofs.YtfaaijoneaompaaGreat

namespace Go.Proofs.YtfaaijoneaompaaGreat
open Go.RowKit

theorem find_low {w w1 : World} {v : Value} {x y : Int} (hb : Below (w.heap.size + 1 + 1 + 1) (((w.alloc (.cells #[v] 24)).alloc (.cells #[.int .i64 x, .int .i64 y] 45)).alloc (.cells #[.bool false, .int .i64 0, .int .i64 0, .int .i64 0, .int .i64 0, .slice none 0 0, .int .i64 0, .bool false] 43)) w1) :
    (w1.cell? ⟨w.heap.size, 0, none⟩ = some v ∧ w1.cell? ⟨w.heap.size + 1, 0, none⟩ = some (.int .i64 x) ∧ w1.cell? ⟨w.heap.size + 1, 1, none⟩ = some (.int .i64 y)) ∧
    (w1.cell? ⟨w.heap.size + 1 + 1, 0, none⟩ = some (.bool false) ∧ w1.cell? ⟨w.heap.size + 1 + 1, 1, none⟩ = some (.int .i64 0) ∧ w1.cell? ⟨w.heap.size + 1 + 1, 2, none⟩ = some (.int .i64 0) ∧ w1.cell? ⟨w.heap.size + 1 + 1, 3, none⟩ = some (.int .i64 0) ∧ w1.cell? ⟨w.heap.size + 1 + 1, 4, none⟩ = some (.int .i64 0) ∧ w1.cell? ⟨w.heap.size + 1 + 1, 5, none⟩ = some (.slice none 0 0) ∧ w1.cell? ⟨w.heap.size + 1 + 1, 6, none⟩ = some (.int .i64 0) ∧ w1.cell? ⟨w.heap.size + 1 + 1, 7, none⟩ = some (.bool false)) ∧
    (∀ o, w1.frozen? ⟨w.heap.size + 1 + 1, o, none⟩ = false) ∧ Below w.heap.size w w1 := by
  refine ⟨⟨?_, ?_, ?_⟩, ⟨?_, ?_, ?_, ?_, ?_, ?_, ?_, ?_⟩, fun o => ?_, (three_below _ _ _ _).trans (hb.mono (by omega))⟩
  all_goals first | exact (hb.cell (by first | (simp; done) | (simp; omega))).trans (by go_simp) | exact (hb.frozen (by first | (simp; done) | (simp; omega))).trans (by go_simp)

/-- What Find says is wrong. -/
def findE (S : List Nd) (p u : Int) : Int := if checkE S = 0 then holdsE S p u else checkE S

theorem find_zero {S : List Nd} {p u : Int} (h : WF S) (hh : holdsE S p u = 0) : findE S p u = 0 := by
  rw [findE, if_pos ((wf_iff S).mpr h)]
  exact hh
theorem find_parts {S : List Nd} {p u : Int} (h : findE S p u = 0) : checkE S = 0 ∧ holdsE S p u = 0 := by
  unfold findE at h
  by_cases hc : checkE S = 0
  · rw [if_pos hc] at h
    exact ⟨hc, h⟩
  · rw [if_neg hc] at h
    exact absurd h hc

set_option maxHeartbeats 1000000 in
theorem find_err (a : Option Addr) (c : Nat) (S : List Nd) (p u E : Int) (w : World) (hN : S.length ≤ 9223372036854775807) (hB : Big S) (hS : NdsAt w a S) (hE : findE S p u = E) (hE0 : E ≠ 0) :
    Calls Tryz.prog 48 #[.agg #[.slice a S.length c], .agg #[.int .i64 p, .int .i64 u]] w fun e w' => e = .returned (.tuple #[.agg #[.bool false, .int .i64 0, .int .i64 0, .int .i64 0, .int .i64 0, .slice none 0 0, .int .i64 0, .bool false], .int .i64 E]) ∧ Below w.heap.size w w' := by
  have d0 := fun W hW => check_any a c S W hN hB hW
  have d1 := fun W hW => holds_any a c S p u W hN hW
  have HS : Hid (NdsAt w a S) := hS
  have hz : (E == 0) = false := by simp [hE0]
  unfold findE at hE
  by_cases hc : checkE S = 0
  · rw [if_pos hc] at hE
    rw [hE] at d1
    rw [hc] at d0
    have D0 : Hid _ := d0
    have D1 : Hid _ := d1
    clear hS d0 d1 hE hB hc
    generalize S.length = n at *
    go_enter Tryz.func48, Tryz.ntmps48
    go_wp2_with (go_at_call 15; refine (D0.out _ (HS.out.below (three_below _ _ _ _))).mono ?_; rintro e w1 ⟨rfl, hb1⟩; simp only [World.size_alloc] at hb1; obtain ⟨⟨l0, l1, l2⟩, ⟨z0, z1, z2, z3, z4, z5, z6, z7⟩, hz', hbo⟩ := find_low hb1)
    refine (D1.out _ (HS.out.below hbo)).mono ?_
    rintro e w2 ⟨rfl, hb2⟩
    have hs1 := hb1.size
    simp only [World.size_alloc] at hs1
    have hb12 := hb1.trans (hb2.mono hs1)
    clear l0 l1 l2 z0 z1 z2 z3 z4 z5 z6 z7 hz' hbo hb1 hb2
    obtain ⟨⟨l0, l1, l2⟩, ⟨z0, z1, z2, z3, z4, z5, z6, z7⟩, hz', hbo⟩ := find_low hb12
    go_wp2
    refine bodyPost_ret (v := .tuple #[.agg #[.bool false, .int .i64 0, .int .i64 0, .int .i64 0, .int .i64 0, .slice none 0 0, .int .i64 0, .bool false], .int .i64 E]) (by simp [results, Tryz.results48, go_sem, z0, z1, z2, z3, z4, z5, z6, z7]) rfl ⟨rfl, ?_⟩
    exact (((((((hbo.setCell (by simp; omega) _).setCell (by simp; omega) _).setCell (by simp; omega) _).setCell (by simp; omega) _).setCell (by simp; omega) _).setCell (by simp; omega) _).setCell (by simp; omega) _).setCell (by simp; omega) _
  · rw [if_neg hc] at hE
    rw [hE] at d0
    have D0 : Hid _ := d0
    clear hS d0 d1 hE hB hc
    generalize S.length = n at *
    go_enter Tryz.func48, Tryz.ntmps48
    go_wp2_with (go_at_call 15; refine (D0.out _ (HS.out.below (three_below _ _ _ _))).mono ?_; rintro e w1 ⟨rfl, hb1⟩; simp only [World.size_alloc] at hb1; obtain ⟨⟨l0, l1, l2⟩, ⟨z0, z1, z2, z3, z4, z5, z6, z7⟩, hz', hbo⟩ := find_low hb1)
    refine bodyPost_ret (v := .tuple #[.agg #[.bool false, .int .i64 0, .int .i64 0, .int .i64 0, .int .i64 0, .slice none 0 0, .int .i64 0, .bool false], .int .i64 E]) (by simp [results, Tryz.results48, go_sem, z0, z1, z2, z3, z4, z5, z6, z7]) rfl ⟨rfl, ?_⟩
    exact (((((((hbo.setCell (by simp; omega) _).setCell (by simp; omega) _).setCell (by simp; omega) _).setCell (by simp; omega) _).setCell (by simp; omega) _).setCell (by simp; omega) _).setCell (by simp; omega) _).setCell (by simp; omega) _

set_option maxHeartbeats 1000000 in
theorem find_ok (a : Option Addr) (c : Nat) (S : List Nd) (k : Nat) (u : Int) (w : World) (hN : S.length ≤ 9223372036854775807) (hB : Big S) (hS : NdsAt w a S) (hk : k < S.length) (hE : findE S k u = 0) (hK : (nd S k).ks.length ≤ 1000000) :
    Calls Tryz.prog 48 #[.agg #[.slice a S.length c], .agg #[.int .i64 k, .int .i64 u]] w fun e w' => ∃ g, e = .returned (.tuple #[.agg #[.bool (nd S k).u, .int .i64 (nd S k).n, .int .i64 (nd S k).t, .int .i64 (nd S k).m, .int .i64 (nd S k).p, .slice (some ⟨g, 0, none⟩) (nd S k).ks.length (nd S k).ks.length, .int .i64 (nd S k).h, .bool (nd S k).c], .int .i64 0]) ∧ Below w.heap.size w w' ∧ IntsAt w' (some ⟨g, 0, none⟩) (nd S k).ks := by
  have d1 := fun W hW => holds_any a c S k u W hN hW
  rw [(find_parts hE).2] at d1
  have D1 : Hid _ := d1
  have d0 := fun W hW => check_any a c S W hN hB hW
  rw [(find_parts hE).1] at d0
  have D0 : Hid _ := d0
  have HS : Hid (NdsAt w a S) := hS
  have d2 := fun ka kc W hW => copyNode_any (nd S k) ka kc W hK hW
  have D2 : Hid _ := d2
  have NX : Hid (∀ w1, Below w.heap.size w w1 → ∃ b o, a = some ⟨b, o, none⟩ ∧ NdAt w1 b (o + k * 8) (nd S k)) := fun w1 h1 => (hS.below h1) k hk
  have hk2 : (k : Int) < (S.length : Int) := by omega
  have IR : Hid (∀ (W : World) g, W.rowIs g 3 (nd S k).ks.length (fun j => .int .i64 ((nd S k).ks.getD j 0)) → IntsAt W (some ⟨g, 0, none⟩) (nd S k).ks) := fun W g h => ints_of_row h (Nat.le_refl _) (fun _ _ => rfl)
  clear hS d0 d1 d2 hE hK hB
  generalize nd S k = x at *
  obtain ⟨xu, xn, xt, xm, xp, xks, xh, xc⟩ := x
  unfold NdAt at NX
  dsimp only at *
  generalize hL : xks.length = L at *
  have HL : Hid _ := hL
  clear hL
  generalize S.length = n at *
  go_enter Tryz.func48, Tryz.ntmps48
  go_wp2_with (go_at_call 15; refine (D0.out _ (HS.out.below (three_below _ _ _ _))).mono ?_; rintro e w0 ⟨rfl, hb0⟩; simp only [World.size_alloc] at hb0; obtain ⟨⟨l0, l1, l2⟩, ⟨z0, z1, z2, z3, z4, z5, z6, z7⟩, hz', hbo0⟩ := find_low hb0)
  refine (D1.out _ (HS.out.below hbo0)).mono ?_
  rintro e w1 ⟨rfl, hb1'⟩
  have hs0 := hb0.size
  simp only [World.size_alloc] at hs0
  have hb1 := hb0.trans (hb1'.mono hs0)
  clear l0 l1 l2 z0 z1 z2 z3 z4 z5 z6 z7 hz' hbo0 hb0 hb1'
  obtain ⟨⟨l0, l1, l2⟩, ⟨z0, z1, z2, z3, z4, z5, z6, z7⟩, hz', hbo⟩ := find_low hb1
  obtain ⟨b, o, rfl, c0, c1, c2, c3, c4, ⟨ka, kc, c5, hks⟩, c6, c7⟩ := NX.out _ hbo
  have HKS : Hid _ := hks
  have HB1 : Hid _ := hb1
  clear hks hb1 hbo
  go_wp2_with fail
  refine (D2.out ka kc _ HKS.out).mono ?_
  rintro e w2 ⟨g, rfl, hb2, hg, hrow⟩
  have hs1 := HB1.out.size
  simp only [World.size_alloc] at hs1
  have hb12 := HB1.out.trans (hb2.mono hs1)
  clear l0 l1 l2 z0 z1 z2 z3 z4 z5 z6 z7 hz' c0 c1 c2 c3 c4 c5 c6 c7
  obtain ⟨⟨l0, l1, l2⟩, ⟨z0, z1, z2, z3, z4, z5, z6, z7⟩, hz', hbo⟩ := find_low hb12
  have HBO : Hid _ := hbo
  have HR : Hid (w2.rowIs g 3 L (fun j => .int .i64 (xks.getD j 0))) := hrow
  clear hb2 hb12 hbo hrow
  go_wp2
  refine bodyPost_ret (v := .tuple #[.agg #[.bool xu, .int .i64 xn, .int .i64 xt, .int .i64 xm, .int .i64 xp, .slice (some ⟨g, 0, none⟩) L L, .int .i64 xh, .bool xc], .int .i64 0]) (by simp [results, Tryz.results48, go_sem, z0, z1, z2, z3, z4, z5, z6, z7]) rfl ⟨g, rfl, ?_, ?_⟩
  · exact (((((((HBO.out.setCell (by simp; omega) _).setCell (by simp; omega) _).setCell (by simp; omega) _).setCell (by simp; omega) _).setCell (by simp; omega) _).setCell (by simp; omega) _).setCell (by simp; omega) _).setCell (by simp; omega) _
  · refine IR.out _ g ?_
    exact (((((((HR.out.setOther (by simp; omega) _).setOther (by simp; omega) _).setOther (by simp; omega) _).setOther (by simp; omega) _).setOther (by simp; omega) _).setOther (by simp; omega) _).setOther (by simp; omega) _).setOther (by simp; omega) _

end Go.Proofs.YtfaaijoneaompaaGreat
