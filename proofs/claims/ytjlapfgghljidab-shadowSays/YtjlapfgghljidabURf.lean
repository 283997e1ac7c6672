/-
  The reference's CheckStore.
-/
import Derived.Test.YtjlapfgghljidabURzRaRbRhRdRe
import Derived.BigQuiet
import Derived.Deep.RegionHeld3
namespace Go.Proofs.Ytjlapfgghljidab
open Go.RowKit

theorem form_bools (x : Nd) : formB x = if x.u then (if (x.n == 0) then false else if (x.h == -1) then !x.c else (x.p == -1)) else ((x.t == 0) && (x.m == 0) && (x.p == -1) && (x.h == -1) && ((x.ks.length : Int) == 0) && !x.c) := by
  obtain ⟨u, n, t, m, p, ks, h, c⟩ := x
  unfold formB
  dsimp only
  have hl : (((ks.length : Int) == 0) = decide (ks = [])) := by
    cases ks with
    | nil => rfl
    | cons y r => simp; omega
  rw [hl]
  cases u
  · simp only [Bool.false_eq_true, if_false]
    rw [Bool.eq_iff_iff]
    simp [and_assoc]
    intro _ _ _
    constructor
    · rintro ⟨a, b, c⟩; exact ⟨b, a, c⟩
    · rintro ⟨a, b, c⟩; exact ⟨b, a, c⟩
  · simp only [if_true]
    by_cases e1 : n = 0
    · simp [e1]
    · by_cases e2 : h = -1
      · simp [e1, e2]
      · simp [e1, e2]
        by_cases e3 : p = -1 <;> simp [e3]

theorem node_range {N : Int} {x : Nd} (h : rangeB x = false) : nodeE N x = 2 := by
  unfold nodeE
  rw [h]
  rfl
theorem node_names {N : Int} {x : Nd} (h : rangeB x = true) (h2 : namesB N x = false) : nodeE N x = 4 := by
  unfold nodeE
  rw [h, h2]
  rfl
theorem node_form {N : Int} {x : Nd} (h : rangeB x = true) (h2 : namesB N x = true) (h3 : formB x = false) : nodeE N x = 3 := by
  unfold nodeE
  rw [h, h2, h3]
  rfl
theorem names_false_kid {N : Int} {x : Nd} {y : Int} (hy : y ∈ x.ks) (h : okPl N y = false) : namesB N x = false := by
  cases hq : namesB N x with
  | false => rfl
  | true =>
    have := (names_parts hq).2.2 y hy
    rw [h] at this
    cases this
theorem names_false_p {N : Int} {x : Nd} (h : okPl N x.p = false) : namesB N x = false := by
  cases hq : namesB N x with
  | false => rfl
  | true => have := (names_parts hq).1; rw [h] at this; cases this
theorem names_false_h {N : Int} {x : Nd} (h : okPl N x.h = false) : namesB N x = false := by
  cases hq : namesB N x with
  | false => rfl
  | true => have := (names_parts hq).2.1; rw [h] at this; cases this

theorem standC_bad {S : List Nd} {i k : Nat} (hk : k < S.length) (h : ¬ StandC S i k) : ¬ OkB S i := fun ho => h (ho.1 k hk)

theorem kids_more {ks : List Int} {P : Int → Prop} {q : Nat} (h : ∀ j, j < q → P (ks.getD j 0)) (hq : P (ks.getD q 0)) : ∀ j, j < q + 1 → P (ks.getD j 0) := fun j hj => by
  by_cases e : j = q
  · subst e; exact hq
  · exact h j (by omega)

theorem standU_zero {S : List Nd} {i : Nat} : ∀ {k : Nat}, k ≤ S.length → (∀ k', k' < k → StandC S i k') → (∀ k' : Nat, k' < k → (nd S i).p ≠ k') → cntU S k i = 0
  | 0, _, _, _ => cntU_zero S i
  | k + 1, h1, h2, h3 => by
    rw [cntU_succ S k i (by omega), standU_zero (by omega) (fun k' hk' => h2 k' (by omega)) (fun k' hk' => h3 k' (by omega)), Nat.zero_add]
    exact List.count_eq_zero.2 fun hm => h3 k (by omega) ((((h2 k (by omega)).1 _ hm).2 rfl).2)
theorem hostsN_le (S : List Nd) (i : Nat) : ∀ k, hostsN S k i ≤ k
  | 0 => Nat.le_refl _
  | k + 1 => by
    have := hostsN_le S i k
    simp only [hostsN]
    split <;> omega
theorem stand_all {S : List Nd} {i k : Nat} {ks : List Int} {u : Bool} {p h : Int} (e1 : (nd S k).ks = ks) (e2 : (nd S i).u = u) (e3 : (nd S i).p = p) (e4 : (nd S k).h = h) (h1 : ∀ j, j < ks.length → ks.getD j 0 ≠ -1 ∧ (ks.getD j 0 = (i : Int) → u = true ∧ p = k)) (h2 : h = (i : Int) → u = true) : StandC S i k := by
  subst e1 e2 e3 e4
  refine ⟨fun c hc => ?_, h2⟩
  obtain ⟨j, hj, rfl⟩ := List.getElem_of_mem hc
  have := h1 j hj
  rwa [getD_elem _ _ hj] at this
theorem stand_kid {S : List Nd} {i k j : Nat} {ks : List Int} {u : Bool} {p : Int} (e1 : (nd S k).ks = ks) (e2 : (nd S i).u = u) (e3 : (nd S i).p = p) (hj : j < ks.length) (h : StandC S i k) : ks.getD j 0 ≠ -1 ∧ (ks.getD j 0 = (i : Int) → u = true ∧ p = k) := by
  subst e1 e2 e3
  exact h.1 _ (by rw [getD_elem _ _ hj]; exact List.getElem_mem hj)

theorem first_at {N : Int} : ∀ {l : List Nd} {k : Nat}, k < l.length → (∀ i, i < k → nodeE N (l.getD i zeroNd) = 0) → nodeE N (l.getD k zeroNd) ≠ 0 → firstE N l = nodeE N (l.getD k zeroNd)
  | [], _, h, _, _ => by simp at h
  | x :: r, 0, _, _, hk => by
    simp only [List.getD_cons_zero] at hk ⊢
    simp only [firstE]
    rw [if_neg hk]
  | x :: r, k + 1, h, hi, hk => by
    simp only [List.getD_cons_succ] at hk ⊢
    have h0 := hi 0 (by omega)
    simp only [List.getD_cons_zero] at h0
    simp only [firstE]
    rw [if_pos h0]
    exact first_at (by simpa using h) (fun i hi' => by have := hi (i + 1) (by omega); simpa using this) hk

theorem check_first {S : List Nd} (hN : S.length ≤ 24) {k : Nat} (hk : k < S.length) (hi : ∀ i, i < k → nodeE S.length (nd S i) = 0) {E : Int} (hE : nodeE S.length (nd S k) = E) (hE0 : E ≠ 0) : checkE S = E := by
  have h := first_at (N := (S.length : Int)) hk hi (by rw [show S.getD k zeroNd = nd S k from rfl, hE]; exact hE0)
  rw [show S.getD k zeroNd = nd S k from rfl, hE] at h
  unfold checkE
  rw [if_neg (by omega), h, if_neg hE0]

theorem check_tree {S : List Nd} (hN : S.length ≤ 24) (hn : ∀ i, i < S.length → nodeE S.length (nd S i) = 0) : checkE S = treeE S := by
  unfold checkE
  rw [if_neg (by omega), if_pos ((firstE_zero _ _).2 fun x hx => by
    obtain ⟨j, hj, rfl⟩ := List.getElem_of_mem hx
    have := hn j hj
    rwa [nd_elem hj] at this)]

set_option maxRecDepth 100000 in
set_option maxHeartbeats 8000000 in
theorem rCheck_many (a : Option Addr) (c : Nat) (S : List Nd) (w : World) (hM : 24 < S.length) (hN : S.length ≤ 9223372036854775807) :
    Calls Try.prog 32 #[.agg #[.slice a S.length c]] w fun e w' => e = .returned (.int .i64 (checkE S)) ∧ Below w.heap.size w w' := by
  have hE : checkE S = 1 := by
    unfold checkE
    rw [if_pos hM]
  rw [hE]
  have h2 : (24 : Int) < (S.length : Int) := by omega
  generalize S.length = n at *
  go_enter Try.func32, Try.ntmps32
  go_wp2
  go_ret
  exact ⟨rfl, (Below.refl _ _).alloc (Nat.le_refl _) _⟩

set_option maxRecDepth 100000 in
set_option maxHeartbeats 8000000 in
theorem rCheck_few (a : Option Addr) (c : Nat) (S : List Nd) (w : World) (hM : S.length ≤ 24) (hB : Big S) (hS : NdsAt w a S) :
    Calls Try.prog 32 #[.agg #[.slice a S.length c]] w fun e w' => e = .returned (.int .i64 (checkE S)) ∧ Below w.heap.size w w' := by
  have HS : Hid (NdsAt w a S) := hS
  have HBig : Hid (Big S) := hB
  have CF : Hid (∀ k, k < S.length → (∀ i, i < k → nodeE S.length (nd S i) = 0) → ∀ E, nodeE S.length (nd S k) = E → E ≠ 0 → checkE S = E) := fun k h1 h2 E h3 h4 => check_first hM h1 h2 h3 h4
  have CT : Hid ((∀ i, i < S.length → nodeE S.length (nd S i) = 0) → checkE S = treeE S) := fun h => check_tree hM h
  have OT : Hid ((∀ i, i < S.length → nodeE S.length (nd S i) = 0) → (∀ i, i < S.length → OkB S i) → treeE S = 0) := fun h1 h2 => okB_tree h1 h2
  have BT : Hid ((∀ i, i < S.length → nodeE S.length (nd S i) = 0) → ∀ i, i < S.length → ¬ OkB S i → treeE S = 6) := fun h1 i hi h2 => bad_tree hM h1 hi h2
  have hM2 : ¬ (24 : Int) < (S.length : Int) := by omega
  obtain ⟨R, hR⟩ : ∃ R, checkE S = R := ⟨_, rfl⟩
  rw [hR] at CF CT ⊢
  clear hS hR hB
  obtain ⟨n, hn⟩ : ∃ n, S.length = n := ⟨_, rfl⟩
  have HN : Hid (S.length = n) := hn
  rw [hn] at hM hM2 CF CT OT BT ⊢
  clear hn
  go_enter Try.func32, Try.ntmps32
  go_wp2_with fail
  have c0 : (w.alloc (.cells #[.slice a n c] 24)).cell? ⟨w.heap.size, 0, none⟩ = some (.slice a n c) := by go_simp
  go_loopg [23] n (fun g s23 wr => ∃ k : Nat, k ≤ n ∧ n - k ≤ g ∧ s23 = .int .i64 k ∧ Hid (Below w.heap.size w wr) ∧ wr.cell? ⟨w.heap.size, 0, none⟩ = some (.slice a n c) ∧ Hid (∀ i, i < k → nodeE n (nd S i) = 0))
  case atStart => exact ⟨0, by omega, by omega, rfl, (Below.refl _ _).alloc (Nat.le_refl _) _, c0, fun i hi => absurd hi (Nat.not_lt_zero _)⟩
  case round =>
    obtain ⟨k, hk, hg, rfl, HB, cs, HA⟩ := hrel
    clear c0
    have hsz := World.block_lt_of_cell? _ _ cs
    by_cases hlt : k < n
    · have hlt2 : (k : Int) < (n : Int) := by omega
      obtain ⟨nb, no, ea, k0, k1, k2, k3, k4, ⟨ka, kc, k5, hks⟩, k6, k7⟩ := (HS.out.below HB.out) k (by rw [HN.out]; exact hlt)
      subst ea
      have hnb := World.block_lt_of_cell? _ _ k0
      have FAIL : Hid (∀ E, nodeE n (nd S k) = E → E ≠ 0 → R = E) := fun E h1 h2 => CF.out k hlt HA.out E h1 h2
      have NEXT : Hid (nodeE n (nd S k) = 0 → ∀ i, i < k + 1 → nodeE n (nd S i) = 0) := fun h i hi => by
        by_cases e : i = k
        · subst e; exact h
        · exact HA.out i (by omega)
      have hbk := HBig.out k (by rw [HN.out]; exact hlt)
      obtain ⟨x, hx⟩ : ∃ x, nd S k = x := ⟨_, rfl⟩
      rw [hx] at k0 k1 k2 k3 k4 k5 k6 k7 hks FAIL NEXT hbk
      clear hx CF
      have HKS : Hid (IntsAt wr ka x.ks) := hks
      clear hks
      have r1 := rin_any x.n 0 1000000
      have r2 := rin_any x.t 0 99
      have r3 := rin_any x.m (-1000000) 1000000
      have HX : Hid (∀ b1 b2 b3, decide (0 ≤ x.n ∧ x.n ≤ 1000000) = b1 → decide (0 ≤ x.t ∧ x.t ≤ 99) = b2 → decide (-1000000 ≤ x.m ∧ x.m ≤ 1000000) = b3 → rangeB x = (b1 && (b2 && b3))) := fun b1 b2 b3 h1 h2 h3 => by unfold rangeB; rw [h1, h2, h3]
      obtain ⟨b1, hb1⟩ : ∃ b, decide (0 ≤ x.n ∧ x.n ≤ 1000000) = b := ⟨_, rfl⟩
      obtain ⟨b2, hb2⟩ : ∃ b, decide (0 ≤ x.t ∧ x.t ≤ 99) = b := ⟨_, rfl⟩
      obtain ⟨b3, hb3⟩ : ∃ b, decide (-1000000 ≤ x.m ∧ x.m ≤ 1000000) = b := ⟨_, rfl⟩
      have HRB : Hid (rangeB x = (b1 && (b2 && b3))) := HX.out b1 b2 b3 hb1 hb2 hb3
      rw [hb1] at r1
      rw [hb2] at r2
      rw [hb3] at r3
      clear hb1 hb2 hb3 HX
      have RP := fun W => rin_any x.p (-1) ((n : Int) - 1) W
      have RH := fun W => rin_any x.h (-1) ((n : Int) - 1) W
      have RK : Hid (∀ y W, Calls _ _ _ _ _) := fun y W => rin_any y (-1) ((n : Int) - 1) W
      rw [show decide (-1 ≤ x.p ∧ x.p ≤ (n : Int) - 1) = okPl n x.p from rfl] at RP
      rw [show decide (-1 ≤ x.h ∧ x.h ≤ (n : Int) - 1) = okPl n x.h from rfl] at RH
      have NMK : Hid (∀ i, i < x.ks.length → okPl n (x.ks.getD i 0) = false → namesB n x = false) := fun i hi h => names_false_kid (by rw [getD_elem _ _ hi]; exact List.getElem_mem hi) h
      have NMP : Hid (okPl n x.p = false → namesB n x = false) := names_false_p
      have NMH : Hid (okPl n x.h = false → namesB n x = false) := names_false_h
      have NMT : Hid ((∀ i, i < x.ks.length → okPl n (x.ks.getD i 0) = true) → okPl n x.p = true → okPl n x.h = true → namesB n x = true) := fun h1 h2 h3 => names_mk h2 h3 (fun y hy => by obtain ⟨i, hi, rfl⟩ := List.getElem_of_mem hy; have := h1 i hi; rwa [getD_elem _ _ hi] at this)
      obtain ⟨W1, hW1⟩ : ∃ W1, W1 = wr.alloc (.cells #[.bool x.u, .int .i64 x.n, .int .i64 x.t, .int .i64 x.m, .int .i64 x.p, .slice ka x.ks.length kc, .int .i64 x.h, .bool x.c] 35) := ⟨_, rfl⟩
      have HBW : Hid (Below w.heap.size w W1) := by rw [hW1]; exact HB.out.alloc HB.out.size _
      have csW : W1.cell? ⟨w.heap.size, 0, none⟩ = some (.slice (some ⟨nb, no, none⟩) n c) := by rw [hW1]; go_simp
      have HKW : Hid (IntsAt W1 ka x.ks) := by rw [hW1]; exact HKS.out.below ((Below.refl _ _).alloc (Nat.le_refl _) _)
      cases b1 with
      | false =>
        have HF : Hid (R = 2) := FAIL.out 2 (node_range (by rw [HRB.out]; rfl)) (by omega)
        obtain ⟨xu, xn, xt, xm, xp, xks, xh, xc⟩ := x
        dsimp only at *
        generalize xks.length = xl at *
        clear hW1 csW
        go_wp2_with (first | (go_at_call_of 51 (Value.int .i64 xn); refine (r1 _).mono ?_; rintro e w' ⟨rfl, rfl⟩) | (go_at_call_of 51 (Value.int .i64 xt); refine (r2 _).mono ?_; rintro e w' ⟨rfl, rfl⟩) | (go_at_call_of 51 (Value.int .i64 xm); refine (r3 _).mono ?_; rintro e w' ⟨rfl, rfl⟩))
        go_ret
        exact ⟨by rw [HF.out]; rfl, HB.out.alloc HB.out.size _⟩
      | true =>
        cases b2 with
        | false =>
          have HF : Hid (R = 2) := FAIL.out 2 (node_range (by rw [HRB.out]; rfl)) (by omega)
          obtain ⟨xu, xn, xt, xm, xp, xks, xh, xc⟩ := x
          dsimp only at *
          generalize xks.length = xl at *
          clear hW1 csW
          go_wp2_with (first | (go_at_call_of 51 (Value.int .i64 xn); refine (r1 _).mono ?_; rintro e w' ⟨rfl, rfl⟩) | (go_at_call_of 51 (Value.int .i64 xt); refine (r2 _).mono ?_; rintro e w' ⟨rfl, rfl⟩) | (go_at_call_of 51 (Value.int .i64 xm); refine (r3 _).mono ?_; rintro e w' ⟨rfl, rfl⟩))
          go_ret
          exact ⟨by rw [HF.out]; rfl, HB.out.alloc HB.out.size _⟩
        | true =>
          cases b3 with
          | false =>
            have HF : Hid (R = 2) := FAIL.out 2 (node_range (by rw [HRB.out]; rfl)) (by omega)
            obtain ⟨xu, xn, xt, xm, xp, xks, xh, xc⟩ := x
            dsimp only at *
            generalize xks.length = xl at *
            clear hW1 csW
            go_wp2_with (first | (go_at_call_of 51 (Value.int .i64 xn); refine (r1 _).mono ?_; rintro e w' ⟨rfl, rfl⟩) | (go_at_call_of 51 (Value.int .i64 xt); refine (r2 _).mono ?_; rintro e w' ⟨rfl, rfl⟩) | (go_at_call_of 51 (Value.int .i64 xm); refine (r3 _).mono ?_; rintro e w' ⟨rfl, rfl⟩))
            go_ret
            exact ⟨by rw [HF.out]; rfl, HB.out.alloc HB.out.size _⟩
          | true =>
            have HR : Hid (rangeB x = true) := HRB.out
            have HX3 : Hid (x = x) := rfl
            obtain ⟨V, rfl⟩ : ∃ V, V = wr := ⟨_, rfl⟩
            have FORM : Hid (formB x = if x.u then (if (x.n == 0) then false else if (x.h == -1) then !x.c else (x.p == -1)) else ((x.t == 0) && (x.m == 0) && (x.p == -1) && (x.h == -1) && ((x.ks.length : Int) == 0) && !x.c)) := form_bools x
            have FAIL3 : Hid (namesB n x = true → formB x = false → R = 3) := fun h1 h2 => FAIL.out 3 (node_form HR.out h1 h2) (by omega)
            have FAIL4 : Hid (namesB n x = false → R = 4) := fun h1 => FAIL.out 4 (node_names HR.out h1) (by omega)
            have NEXT0 : Hid (namesB n x = true → formB x = true → ∀ i, i < k + 1 → nodeE n (nd S i) = 0) := fun h1 h2 => NEXT.out (node_of HR.out h1 h2)
            generalize hfx : formB x = fx at *
            generalize hnx : namesB n x = nx at *
            clear hfx hnx FAIL NEXT HR HRB HX3
            obtain ⟨xu, xn, xt, xm, xp, xks, xh, xc⟩ := x
            dsimp only at *
            obtain ⟨xl, hxl⟩ : ∃ l, xks.length = l := ⟨_, rfl⟩
            have HXL : Hid (xks.length = xl) := hxl
            rw [hxl] at k5 hW1 FORM hbk
            clear hxl
            have p0 : W1.cell? ⟨V.heap.size, 0, none⟩ = some (.bool xu) := by rw [hW1]; go_simp
            have p1 : W1.cell? ⟨V.heap.size, 1, none⟩ = some (.int .i64 xn) := by rw [hW1]; go_simp
            have p2 : W1.cell? ⟨V.heap.size, 2, none⟩ = some (.int .i64 xt) := by rw [hW1]; go_simp
            have p3 : W1.cell? ⟨V.heap.size, 3, none⟩ = some (.int .i64 xm) := by rw [hW1]; go_simp
            have p4 : W1.cell? ⟨V.heap.size, 4, none⟩ = some (.int .i64 xp) := by rw [hW1]; go_simp
            have p5 : W1.cell? ⟨V.heap.size, 5, none⟩ = some (.slice ka xl kc) := by rw [hW1]; go_simp
            have p6 : W1.cell? ⟨V.heap.size, 6, none⟩ = some (.int .i64 xh) := by rw [hW1]; go_simp
            have p7 : W1.cell? ⟨V.heap.size, 7, none⟩ = some (.bool xc) := by rw [hW1]; go_simp
            go_wp2_with (first | (go_at_call_of 51 (Value.int .i64 xn); refine (r1 _).mono ?_; rintro e w' ⟨rfl, rfl⟩) | (go_at_call_of 51 (Value.int .i64 xt); refine (r2 _).mono ?_; rintro e w' ⟨rfl, rfl⟩) | (go_at_call_of 51 (Value.int .i64 xm); refine (r3 _).mono ?_; rintro e w' ⟨rfl, rfl⟩))
            rw [← hW1]
            clear hW1 k0 k1 k2 k3 k4 k5 k6 k7 r1 r2 r3 cs
            have hn1 : IntKind.i64.wrap ((n : Int) - 1) = (n : Int) - 1 := by rw [IntKind.wrap_i64]; omega
            go_loopg [46] xl (fun g2 s46 w5 => ∃ j : Nat, j ≤ xl ∧ xl - j ≤ g2 ∧ s46 = .int .i64 j ∧ w5 = W1 ∧ Hid (∀ i, i < j → okPl n (xks.getD i 0) = true))
            case atStart => exact ⟨0, by omega, by omega, rfl, rfl, fun i hi => absurd hi (Nat.not_lt_zero _)⟩
            case round =>
              obtain ⟨j, hj, hg2, rfl, hw5, HK⟩ := hrel
              have h2 := hw5.symm
              clear hw5
              subst h2
              by_cases hl3 : j < xl
              · have hl4 : (j : Int) < (xl : Int) := by omega
                obtain ⟨kb, ko, eka, hkc⟩ := HKW.out j (by rw [HXL.out]; exact hl3)
                subst eka
                have rk := fun W => RK.out (xks.getD j 0) W
                rw [show decide (-1 ≤ xks.getD j 0 ∧ xks.getD j 0 ≤ (n : Int) - 1) = okPl n (xks.getD j 0) from rfl] at rk
                cases hok : okPl n (xks.getD j 0) with
                | false =>
                  have HF : Hid (R = 4) := FAIL4.out (NMK.out j (by rw [HXL.out]; exact hl3) hok)
                  rw [hok] at rk
                  clear hok
                  generalize xks.getD j 0 = y at *
                  go_wp2_with (go_at_call 51; refine (rk _).mono ?_; rintro e w' ⟨rfl, rfl⟩)
                  go_ret
                  exact ⟨by rw [HF.out]; rfl, HBW.out⟩
                | true =>
                  have HK2 : Hid (∀ i, i < j + 1 → okPl n (xks.getD i 0) = true) := fun i hi => by
                    by_cases e : i = j
                    · subst e; exact hok
                    · exact HK.out i (by omega)
                  rw [hok] at rk
                  clear hok HK
                  generalize hyy : xks.getD j 0 = y at rk hkc
                  clear hyy
                  go_wp2_with (go_at_call 51; refine (rk _).mono ?_; rintro e w' ⟨rfl, rfl⟩)
                  go_roundg (xl - (j + 1))
                  case measure => omega
                  case rel => exact ⟨j + 1, by omega, by omega, by go_num, rfl, HK2⟩
              · obtain rfl : xl = j := by omega
                have NT : Hid (okPl n xp = true → okPl n xh = true → nx = true) := fun h1 h2 => NMT.out (fun i hi => HK.out i (by rw [← HXL.out]; exact hi)) h1 h2
                clear HK NMK NMT HKW HKS
                cases hop : okPl n xp with
                | false =>
                  have HF : Hid (R = 4) := FAIL4.out (NMP.out hop)
                  rw [hop] at RP
                  go_wp2_with (first | (go_at_call_of 51 (Value.int .i64 xp); refine (RP _).mono ?_; rintro e w' ⟨rfl, rfl⟩) | (go_at_call_of 51 (Value.int .i64 xh); refine (RH _).mono ?_; rintro e w' ⟨rfl, rfl⟩))
                  go_ret
                  exact ⟨by rw [HF.out]; rfl, HBW.out⟩
                | true =>
                  rw [hop] at RP
                  cases hoh : okPl n xh with
                  | false =>
                    have HF : Hid (R = 4) := FAIL4.out (NMH.out hoh)
                    rw [hoh] at RH
                    go_wp2_with (first | (go_at_call_of 51 (Value.int .i64 xp); refine (RP _).mono ?_; rintro e w' ⟨rfl, rfl⟩) | (go_at_call_of 51 (Value.int .i64 xh); refine (RH _).mono ?_; rintro e w' ⟨rfl, rfl⟩))
                    go_ret
                    exact ⟨by rw [HF.out]; rfl, HBW.out⟩
                  | true =>
                    have HNM := NT.out hop hoh
                    subst HNM
                    rw [hoh] at RH
                    have F3 : Hid (fx = false → R = 3) := FAIL3.out rfl
                    have N0 : Hid (fx = true → ∀ i, i < k + 1 → nodeE n (nd S i) = 0) := NEXT0.out rfl
                    have FO : Hid _ := FORM.out
                    clear hop hoh NT NMP NMH FAIL4 FAIL3 NEXT0 FORM RK
                    obtain ⟨et, het⟩ : ∃ b, (xt == 0) = b := ⟨_, rfl⟩
                    obtain ⟨em, hem⟩ : ∃ b, (xm == 0) = b := ⟨_, rfl⟩
                    obtain ⟨ep, hep⟩ : ∃ b, (xp == -1) = b := ⟨_, rfl⟩
                    obtain ⟨eh, heh⟩ : ∃ b, (xh == -1) = b := ⟨_, rfl⟩
                    obtain ⟨el, hel⟩ : ∃ b, ((xl : Int) == 0) = b := ⟨_, rfl⟩
                    obtain ⟨en, hen⟩ : ∃ b, (xn == 0) = b := ⟨_, rfl⟩
                    rw [het, hem, hep, heh, hel, hen] at FO
                    cases et with
                    | false =>
                      have et2 : (xt != 0) = true := by unfold bne; rw [het]; rfl
                      have et4 : ¬ xt = 0 := by simpa using het
                      cases xu with
                      | false =>
                        as_aux_lemma =>
                          have HF : Hid (R = 3) := F3.out (by rw [FO.out]; cases em <;> cases ep <;> cases eh <;> cases el <;> cases xc <;> cases en <;> rfl)
                          go_wp2_with (first | (go_at_call_of 51 (Value.int .i64 xp); refine (RP _).mono ?_; rintro e w' ⟨rfl, rfl⟩) | (go_at_call_of 51 (Value.int .i64 xh); refine (RH _).mono ?_; rintro e w' ⟨rfl, rfl⟩))
                          first
                            | (go_ret; exact ⟨by rw [HF.out]; rfl, HBW.out⟩)
                            | (go_big_quiet (fail); go_wp2; go_ret; exact ⟨by rw [HF.out]; rfl, Below.drewNs HBW.out _⟩)
                      | true =>
                        cases en with
                        | false =>
                          have en2 : (xn != 0) = true := by unfold bne; rw [hen]; rfl
                          have en4 : ¬ xn = 0 := by simpa using hen
                          cases eh with
                          | false =>
                            have eh2 : (xh != -1) = true := by unfold bne; rw [heh]; rfl
                            have eh4 : ¬ xh = -1 := by simpa using heh
                            cases ep with
                            | false =>
                              have ep2 : (xp != -1) = true := by unfold bne; rw [hep]; rfl
                              have ep4 : ¬ xp = -1 := by simpa using hep
                              as_aux_lemma =>
                                have HF : Hid (R = 3) := F3.out (by rw [FO.out]; cases em <;> cases el <;> cases xc <;> rfl)
                                go_wp2_with (first | (go_at_call_of 51 (Value.int .i64 xp); refine (RP _).mono ?_; rintro e w' ⟨rfl, rfl⟩) | (go_at_call_of 51 (Value.int .i64 xh); refine (RH _).mono ?_; rintro e w' ⟨rfl, rfl⟩))
                                first
                                  | (go_ret; exact ⟨by rw [HF.out]; rfl, HBW.out⟩)
                                  | (go_big_quiet (fail); go_wp2; go_ret; exact ⟨by rw [HF.out]; rfl, Below.drewNs HBW.out _⟩)
                            | true =>
                              have ep2 : (xp != -1) = false := by unfold bne; rw [hep]; rfl
                              have ep3 : decide (xp = -1) = true := by simpa using hep
                              have ep5 : decide (¬ xp = -1) = false := by simpa using hep
                              as_aux_lemma =>
                                have HF : Hid (∀ i, i < k + 1 → nodeE n (nd S i) = 0) := N0.out (by rw [FO.out]; cases em <;> cases el <;> cases xc <;> rfl)
                                go_wp2_with (first | (go_at_call_of 51 (Value.int .i64 xp); refine (RP _).mono ?_; rintro e w' ⟨rfl, rfl⟩) | (go_at_call_of 51 (Value.int .i64 xh); refine (RH _).mono ?_; rintro e w' ⟨rfl, rfl⟩))
                                first
                                  | (go_roundg (n - (k + 1)); (case measure => omega); (case rel => exact ⟨k + 1, by omega, by omega, by go_num, HBW, csW, HF⟩))
                                  | (go_big_quiet (fail); go_wp2; go_roundg (n - (k + 1)); (case measure => omega); (case rel => exact ⟨k + 1, by omega, by omega, by go_num, Below.drewNs HBW.out _, csW, HF⟩))
                          | true =>
                            have eh2 : (xh != -1) = false := by unfold bne; rw [heh]; rfl
                            have eh3 : decide (xh = -1) = true := by simpa using heh
                            have eh5 : decide (¬ xh = -1) = false := by simpa using heh
                            cases xc with
                            | false =>
                              as_aux_lemma =>
                                have HF : Hid (∀ i, i < k + 1 → nodeE n (nd S i) = 0) := N0.out (by rw [FO.out]; cases em <;> cases ep <;> cases el <;> rfl)
                                go_wp2_with (first | (go_at_call_of 51 (Value.int .i64 xp); refine (RP _).mono ?_; rintro e w' ⟨rfl, rfl⟩) | (go_at_call_of 51 (Value.int .i64 xh); refine (RH _).mono ?_; rintro e w' ⟨rfl, rfl⟩))
                                first
                                  | (go_roundg (n - (k + 1)); (case measure => omega); (case rel => exact ⟨k + 1, by omega, by omega, by go_num, HBW, csW, HF⟩))
                                  | (go_big_quiet (fail); go_wp2; go_roundg (n - (k + 1)); (case measure => omega); (case rel => exact ⟨k + 1, by omega, by omega, by go_num, Below.drewNs HBW.out _, csW, HF⟩))
                            | true =>
                              as_aux_lemma =>
                                have HF : Hid (R = 3) := F3.out (by rw [FO.out]; cases em <;> cases ep <;> cases el <;> rfl)
                                go_wp2_with (first | (go_at_call_of 51 (Value.int .i64 xp); refine (RP _).mono ?_; rintro e w' ⟨rfl, rfl⟩) | (go_at_call_of 51 (Value.int .i64 xh); refine (RH _).mono ?_; rintro e w' ⟨rfl, rfl⟩))
                                first
                                  | (go_ret; exact ⟨by rw [HF.out]; rfl, HBW.out⟩)
                                  | (go_big_quiet (fail); go_wp2; go_ret; exact ⟨by rw [HF.out]; rfl, Below.drewNs HBW.out _⟩)
                        | true =>
                          have en2 : (xn != 0) = false := by unfold bne; rw [hen]; rfl
                          have en3 : decide (xn = 0) = true := by simpa using hen
                          have en5 : decide (¬ xn = 0) = false := by simpa using hen
                          as_aux_lemma =>
                            have HF : Hid (R = 3) := F3.out (by rw [FO.out]; cases em <;> cases ep <;> cases eh <;> cases el <;> cases xc <;> rfl)
                            go_wp2_with (first | (go_at_call_of 51 (Value.int .i64 xp); refine (RP _).mono ?_; rintro e w' ⟨rfl, rfl⟩) | (go_at_call_of 51 (Value.int .i64 xh); refine (RH _).mono ?_; rintro e w' ⟨rfl, rfl⟩))
                            first
                              | (go_ret; exact ⟨by rw [HF.out]; rfl, HBW.out⟩)
                              | (go_big_quiet (fail); go_wp2; go_ret; exact ⟨by rw [HF.out]; rfl, Below.drewNs HBW.out _⟩)
                    | true =>
                      have et2 : (xt != 0) = false := by unfold bne; rw [het]; rfl
                      have et3 : decide (xt = 0) = true := by simpa using het
                      have et5 : decide (¬ xt = 0) = false := by simpa using het
                      cases em with
                      | false =>
                        have em2 : (xm != 0) = true := by unfold bne; rw [hem]; rfl
                        have em4 : ¬ xm = 0 := by simpa using hem
                        cases xu with
                        | false =>
                          as_aux_lemma =>
                            have HF : Hid (R = 3) := F3.out (by rw [FO.out]; cases ep <;> cases eh <;> cases el <;> cases xc <;> cases en <;> rfl)
                            go_wp2_with (first | (go_at_call_of 51 (Value.int .i64 xp); refine (RP _).mono ?_; rintro e w' ⟨rfl, rfl⟩) | (go_at_call_of 51 (Value.int .i64 xh); refine (RH _).mono ?_; rintro e w' ⟨rfl, rfl⟩))
                            first
                              | (go_ret; exact ⟨by rw [HF.out]; rfl, HBW.out⟩)
                              | (go_big_quiet (fail); go_wp2; go_ret; exact ⟨by rw [HF.out]; rfl, Below.drewNs HBW.out _⟩)
                        | true =>
                          cases en with
                          | false =>
                            have en2 : (xn != 0) = true := by unfold bne; rw [hen]; rfl
                            have en4 : ¬ xn = 0 := by simpa using hen
                            cases eh with
                            | false =>
                              have eh2 : (xh != -1) = true := by unfold bne; rw [heh]; rfl
                              have eh4 : ¬ xh = -1 := by simpa using heh
                              cases ep with
                              | false =>
                                have ep2 : (xp != -1) = true := by unfold bne; rw [hep]; rfl
                                have ep4 : ¬ xp = -1 := by simpa using hep
                                as_aux_lemma =>
                                  have HF : Hid (R = 3) := F3.out (by rw [FO.out]; cases el <;> cases xc <;> rfl)
                                  go_wp2_with (first | (go_at_call_of 51 (Value.int .i64 xp); refine (RP _).mono ?_; rintro e w' ⟨rfl, rfl⟩) | (go_at_call_of 51 (Value.int .i64 xh); refine (RH _).mono ?_; rintro e w' ⟨rfl, rfl⟩))
                                  first
                                    | (go_ret; exact ⟨by rw [HF.out]; rfl, HBW.out⟩)
                                    | (go_big_quiet (fail); go_wp2; go_ret; exact ⟨by rw [HF.out]; rfl, Below.drewNs HBW.out _⟩)
                              | true =>
                                have ep2 : (xp != -1) = false := by unfold bne; rw [hep]; rfl
                                have ep3 : decide (xp = -1) = true := by simpa using hep
                                have ep5 : decide (¬ xp = -1) = false := by simpa using hep
                                as_aux_lemma =>
                                  have HF : Hid (∀ i, i < k + 1 → nodeE n (nd S i) = 0) := N0.out (by rw [FO.out]; cases el <;> cases xc <;> rfl)
                                  go_wp2_with (first | (go_at_call_of 51 (Value.int .i64 xp); refine (RP _).mono ?_; rintro e w' ⟨rfl, rfl⟩) | (go_at_call_of 51 (Value.int .i64 xh); refine (RH _).mono ?_; rintro e w' ⟨rfl, rfl⟩))
                                  first
                                    | (go_roundg (n - (k + 1)); (case measure => omega); (case rel => exact ⟨k + 1, by omega, by omega, by go_num, HBW, csW, HF⟩))
                                    | (go_big_quiet (fail); go_wp2; go_roundg (n - (k + 1)); (case measure => omega); (case rel => exact ⟨k + 1, by omega, by omega, by go_num, Below.drewNs HBW.out _, csW, HF⟩))
                            | true =>
                              have eh2 : (xh != -1) = false := by unfold bne; rw [heh]; rfl
                              have eh3 : decide (xh = -1) = true := by simpa using heh
                              have eh5 : decide (¬ xh = -1) = false := by simpa using heh
                              cases xc with
                              | false =>
                                as_aux_lemma =>
                                  have HF : Hid (∀ i, i < k + 1 → nodeE n (nd S i) = 0) := N0.out (by rw [FO.out]; cases ep <;> cases el <;> rfl)
                                  go_wp2_with (first | (go_at_call_of 51 (Value.int .i64 xp); refine (RP _).mono ?_; rintro e w' ⟨rfl, rfl⟩) | (go_at_call_of 51 (Value.int .i64 xh); refine (RH _).mono ?_; rintro e w' ⟨rfl, rfl⟩))
                                  first
                                    | (go_roundg (n - (k + 1)); (case measure => omega); (case rel => exact ⟨k + 1, by omega, by omega, by go_num, HBW, csW, HF⟩))
                                    | (go_big_quiet (fail); go_wp2; go_roundg (n - (k + 1)); (case measure => omega); (case rel => exact ⟨k + 1, by omega, by omega, by go_num, Below.drewNs HBW.out _, csW, HF⟩))
                              | true =>
                                as_aux_lemma =>
                                  have HF : Hid (R = 3) := F3.out (by rw [FO.out]; cases ep <;> cases el <;> rfl)
                                  go_wp2_with (first | (go_at_call_of 51 (Value.int .i64 xp); refine (RP _).mono ?_; rintro e w' ⟨rfl, rfl⟩) | (go_at_call_of 51 (Value.int .i64 xh); refine (RH _).mono ?_; rintro e w' ⟨rfl, rfl⟩))
                                  first
                                    | (go_ret; exact ⟨by rw [HF.out]; rfl, HBW.out⟩)
                                    | (go_big_quiet (fail); go_wp2; go_ret; exact ⟨by rw [HF.out]; rfl, Below.drewNs HBW.out _⟩)
                          | true =>
                            have en2 : (xn != 0) = false := by unfold bne; rw [hen]; rfl
                            have en3 : decide (xn = 0) = true := by simpa using hen
                            have en5 : decide (¬ xn = 0) = false := by simpa using hen
                            as_aux_lemma =>
                              have HF : Hid (R = 3) := F3.out (by rw [FO.out]; cases ep <;> cases eh <;> cases el <;> cases xc <;> rfl)
                              go_wp2_with (first | (go_at_call_of 51 (Value.int .i64 xp); refine (RP _).mono ?_; rintro e w' ⟨rfl, rfl⟩) | (go_at_call_of 51 (Value.int .i64 xh); refine (RH _).mono ?_; rintro e w' ⟨rfl, rfl⟩))
                              first
                                | (go_ret; exact ⟨by rw [HF.out]; rfl, HBW.out⟩)
                                | (go_big_quiet (fail); go_wp2; go_ret; exact ⟨by rw [HF.out]; rfl, Below.drewNs HBW.out _⟩)
                      | true =>
                        have em2 : (xm != 0) = false := by unfold bne; rw [hem]; rfl
                        have em3 : decide (xm = 0) = true := by simpa using hem
                        have em5 : decide (¬ xm = 0) = false := by simpa using hem
                        cases ep with
                        | false =>
                          have ep2 : (xp != -1) = true := by unfold bne; rw [hep]; rfl
                          have ep4 : ¬ xp = -1 := by simpa using hep
                          cases xu with
                          | false =>
                            as_aux_lemma =>
                              have HF : Hid (R = 3) := F3.out (by rw [FO.out]; cases eh <;> cases el <;> cases xc <;> cases en <;> rfl)
                              go_wp2_with (first | (go_at_call_of 51 (Value.int .i64 xp); refine (RP _).mono ?_; rintro e w' ⟨rfl, rfl⟩) | (go_at_call_of 51 (Value.int .i64 xh); refine (RH _).mono ?_; rintro e w' ⟨rfl, rfl⟩))
                              first
                                | (go_ret; exact ⟨by rw [HF.out]; rfl, HBW.out⟩)
                                | (go_big_quiet (fail); go_wp2; go_ret; exact ⟨by rw [HF.out]; rfl, Below.drewNs HBW.out _⟩)
                          | true =>
                            cases en with
                            | false =>
                              have en2 : (xn != 0) = true := by unfold bne; rw [hen]; rfl
                              have en4 : ¬ xn = 0 := by simpa using hen
                              cases eh with
                              | false =>
                                have eh2 : (xh != -1) = true := by unfold bne; rw [heh]; rfl
                                have eh4 : ¬ xh = -1 := by simpa using heh
                                as_aux_lemma =>
                                  have HF : Hid (R = 3) := F3.out (by rw [FO.out]; cases el <;> cases xc <;> rfl)
                                  go_wp2_with (first | (go_at_call_of 51 (Value.int .i64 xp); refine (RP _).mono ?_; rintro e w' ⟨rfl, rfl⟩) | (go_at_call_of 51 (Value.int .i64 xh); refine (RH _).mono ?_; rintro e w' ⟨rfl, rfl⟩))
                                  first
                                    | (go_ret; exact ⟨by rw [HF.out]; rfl, HBW.out⟩)
                                    | (go_big_quiet (fail); go_wp2; go_ret; exact ⟨by rw [HF.out]; rfl, Below.drewNs HBW.out _⟩)
                              | true =>
                                have eh2 : (xh != -1) = false := by unfold bne; rw [heh]; rfl
                                have eh3 : decide (xh = -1) = true := by simpa using heh
                                have eh5 : decide (¬ xh = -1) = false := by simpa using heh
                                cases xc with
                                | false =>
                                  as_aux_lemma =>
                                    have HF : Hid (∀ i, i < k + 1 → nodeE n (nd S i) = 0) := N0.out (by rw [FO.out]; cases el <;> rfl)
                                    go_wp2_with (first | (go_at_call_of 51 (Value.int .i64 xp); refine (RP _).mono ?_; rintro e w' ⟨rfl, rfl⟩) | (go_at_call_of 51 (Value.int .i64 xh); refine (RH _).mono ?_; rintro e w' ⟨rfl, rfl⟩))
                                    first
                                      | (go_roundg (n - (k + 1)); (case measure => omega); (case rel => exact ⟨k + 1, by omega, by omega, by go_num, HBW, csW, HF⟩))
                                      | (go_big_quiet (fail); go_wp2; go_roundg (n - (k + 1)); (case measure => omega); (case rel => exact ⟨k + 1, by omega, by omega, by go_num, Below.drewNs HBW.out _, csW, HF⟩))
                                | true =>
                                  as_aux_lemma =>
                                    have HF : Hid (R = 3) := F3.out (by rw [FO.out]; cases el <;> rfl)
                                    go_wp2_with (first | (go_at_call_of 51 (Value.int .i64 xp); refine (RP _).mono ?_; rintro e w' ⟨rfl, rfl⟩) | (go_at_call_of 51 (Value.int .i64 xh); refine (RH _).mono ?_; rintro e w' ⟨rfl, rfl⟩))
                                    first
                                      | (go_ret; exact ⟨by rw [HF.out]; rfl, HBW.out⟩)
                                      | (go_big_quiet (fail); go_wp2; go_ret; exact ⟨by rw [HF.out]; rfl, Below.drewNs HBW.out _⟩)
                            | true =>
                              have en2 : (xn != 0) = false := by unfold bne; rw [hen]; rfl
                              have en3 : decide (xn = 0) = true := by simpa using hen
                              have en5 : decide (¬ xn = 0) = false := by simpa using hen
                              as_aux_lemma =>
                                have HF : Hid (R = 3) := F3.out (by rw [FO.out]; cases eh <;> cases el <;> cases xc <;> rfl)
                                go_wp2_with (first | (go_at_call_of 51 (Value.int .i64 xp); refine (RP _).mono ?_; rintro e w' ⟨rfl, rfl⟩) | (go_at_call_of 51 (Value.int .i64 xh); refine (RH _).mono ?_; rintro e w' ⟨rfl, rfl⟩))
                                first
                                  | (go_ret; exact ⟨by rw [HF.out]; rfl, HBW.out⟩)
                                  | (go_big_quiet (fail); go_wp2; go_ret; exact ⟨by rw [HF.out]; rfl, Below.drewNs HBW.out _⟩)
                        | true =>
                          have ep2 : (xp != -1) = false := by unfold bne; rw [hep]; rfl
                          have ep3 : decide (xp = -1) = true := by simpa using hep
                          have ep5 : decide (¬ xp = -1) = false := by simpa using hep
                          cases eh with
                          | false =>
                            have eh2 : (xh != -1) = true := by unfold bne; rw [heh]; rfl
                            have eh4 : ¬ xh = -1 := by simpa using heh
                            cases xu with
                            | false =>
                              as_aux_lemma =>
                                have HF : Hid (R = 3) := F3.out (by rw [FO.out]; cases el <;> cases xc <;> cases en <;> rfl)
                                go_wp2_with (first | (go_at_call_of 51 (Value.int .i64 xp); refine (RP _).mono ?_; rintro e w' ⟨rfl, rfl⟩) | (go_at_call_of 51 (Value.int .i64 xh); refine (RH _).mono ?_; rintro e w' ⟨rfl, rfl⟩))
                                first
                                  | (go_ret; exact ⟨by rw [HF.out]; rfl, HBW.out⟩)
                                  | (go_big_quiet (fail); go_wp2; go_ret; exact ⟨by rw [HF.out]; rfl, Below.drewNs HBW.out _⟩)
                            | true =>
                              cases en with
                              | false =>
                                have en2 : (xn != 0) = true := by unfold bne; rw [hen]; rfl
                                have en4 : ¬ xn = 0 := by simpa using hen
                                as_aux_lemma =>
                                  have HF : Hid (∀ i, i < k + 1 → nodeE n (nd S i) = 0) := N0.out (by rw [FO.out]; cases el <;> cases xc <;> rfl)
                                  go_wp2_with (first | (go_at_call_of 51 (Value.int .i64 xp); refine (RP _).mono ?_; rintro e w' ⟨rfl, rfl⟩) | (go_at_call_of 51 (Value.int .i64 xh); refine (RH _).mono ?_; rintro e w' ⟨rfl, rfl⟩))
                                  first
                                    | (go_roundg (n - (k + 1)); (case measure => omega); (case rel => exact ⟨k + 1, by omega, by omega, by go_num, HBW, csW, HF⟩))
                                    | (go_big_quiet (fail); go_wp2; go_roundg (n - (k + 1)); (case measure => omega); (case rel => exact ⟨k + 1, by omega, by omega, by go_num, Below.drewNs HBW.out _, csW, HF⟩))
                              | true =>
                                have en2 : (xn != 0) = false := by unfold bne; rw [hen]; rfl
                                have en3 : decide (xn = 0) = true := by simpa using hen
                                have en5 : decide (¬ xn = 0) = false := by simpa using hen
                                as_aux_lemma =>
                                  have HF : Hid (R = 3) := F3.out (by rw [FO.out]; cases el <;> cases xc <;> rfl)
                                  go_wp2_with (first | (go_at_call_of 51 (Value.int .i64 xp); refine (RP _).mono ?_; rintro e w' ⟨rfl, rfl⟩) | (go_at_call_of 51 (Value.int .i64 xh); refine (RH _).mono ?_; rintro e w' ⟨rfl, rfl⟩))
                                  first
                                    | (go_ret; exact ⟨by rw [HF.out]; rfl, HBW.out⟩)
                                    | (go_big_quiet (fail); go_wp2; go_ret; exact ⟨by rw [HF.out]; rfl, Below.drewNs HBW.out _⟩)
                          | true =>
                            have eh2 : (xh != -1) = false := by unfold bne; rw [heh]; rfl
                            have eh3 : decide (xh = -1) = true := by simpa using heh
                            have eh5 : decide (¬ xh = -1) = false := by simpa using heh
                            cases el with
                            | false =>
                              have el2 : ((xl : Int) != 0) = true := by unfold bne; rw [hel]; rfl
                              have el4 : ¬ (xl : Int) = 0 := by simpa using hel
                              cases xu with
                              | false =>
                                as_aux_lemma =>
                                  have HF : Hid (R = 3) := F3.out (by rw [FO.out]; cases xc <;> cases en <;> rfl)
                                  go_wp2_with (first | (go_at_call_of 51 (Value.int .i64 xp); refine (RP _).mono ?_; rintro e w' ⟨rfl, rfl⟩) | (go_at_call_of 51 (Value.int .i64 xh); refine (RH _).mono ?_; rintro e w' ⟨rfl, rfl⟩))
                                  first
                                    | (go_ret; exact ⟨by rw [HF.out]; rfl, HBW.out⟩)
                                    | (go_big_quiet (fail); go_wp2; go_ret; exact ⟨by rw [HF.out]; rfl, Below.drewNs HBW.out _⟩)
                              | true =>
                                cases en with
                                | false =>
                                  have en2 : (xn != 0) = true := by unfold bne; rw [hen]; rfl
                                  have en4 : ¬ xn = 0 := by simpa using hen
                                  cases xc with
                                  | false =>
                                    as_aux_lemma =>
                                      have HF : Hid (∀ i, i < k + 1 → nodeE n (nd S i) = 0) := N0.out (by rw [FO.out]; rfl)
                                      go_wp2_with (first | (go_at_call_of 51 (Value.int .i64 xp); refine (RP _).mono ?_; rintro e w' ⟨rfl, rfl⟩) | (go_at_call_of 51 (Value.int .i64 xh); refine (RH _).mono ?_; rintro e w' ⟨rfl, rfl⟩))
                                      first
                                        | (go_roundg (n - (k + 1)); (case measure => omega); (case rel => exact ⟨k + 1, by omega, by omega, by go_num, HBW, csW, HF⟩))
                                        | (go_big_quiet (fail); go_wp2; go_roundg (n - (k + 1)); (case measure => omega); (case rel => exact ⟨k + 1, by omega, by omega, by go_num, Below.drewNs HBW.out _, csW, HF⟩))
                                  | true =>
                                    as_aux_lemma =>
                                      have HF : Hid (R = 3) := F3.out (by rw [FO.out]; rfl)
                                      go_wp2_with (first | (go_at_call_of 51 (Value.int .i64 xp); refine (RP _).mono ?_; rintro e w' ⟨rfl, rfl⟩) | (go_at_call_of 51 (Value.int .i64 xh); refine (RH _).mono ?_; rintro e w' ⟨rfl, rfl⟩))
                                      first
                                        | (go_ret; exact ⟨by rw [HF.out]; rfl, HBW.out⟩)
                                        | (go_big_quiet (fail); go_wp2; go_ret; exact ⟨by rw [HF.out]; rfl, Below.drewNs HBW.out _⟩)
                                | true =>
                                  have en2 : (xn != 0) = false := by unfold bne; rw [hen]; rfl
                                  have en3 : decide (xn = 0) = true := by simpa using hen
                                  have en5 : decide (¬ xn = 0) = false := by simpa using hen
                                  as_aux_lemma =>
                                    have HF : Hid (R = 3) := F3.out (by rw [FO.out]; cases xc <;> rfl)
                                    go_wp2_with (first | (go_at_call_of 51 (Value.int .i64 xp); refine (RP _).mono ?_; rintro e w' ⟨rfl, rfl⟩) | (go_at_call_of 51 (Value.int .i64 xh); refine (RH _).mono ?_; rintro e w' ⟨rfl, rfl⟩))
                                    first
                                      | (go_ret; exact ⟨by rw [HF.out]; rfl, HBW.out⟩)
                                      | (go_big_quiet (fail); go_wp2; go_ret; exact ⟨by rw [HF.out]; rfl, Below.drewNs HBW.out _⟩)
                            | true =>
                              have el2 : ((xl : Int) != 0) = false := by unfold bne; rw [hel]; rfl
                              have el3 : decide ((xl : Int) = 0) = true := by simpa using hel
                              have el5 : decide (¬ (xl : Int) = 0) = false := by simpa using hel
                              cases xc with
                              | false =>
                                cases xu with
                                | false =>
                                  as_aux_lemma =>
                                    have HF : Hid (∀ i, i < k + 1 → nodeE n (nd S i) = 0) := N0.out (by rw [FO.out]; cases en <;> rfl)
                                    go_wp2_with (first | (go_at_call_of 51 (Value.int .i64 xp); refine (RP _).mono ?_; rintro e w' ⟨rfl, rfl⟩) | (go_at_call_of 51 (Value.int .i64 xh); refine (RH _).mono ?_; rintro e w' ⟨rfl, rfl⟩))
                                    first
                                      | (go_roundg (n - (k + 1)); (case measure => omega); (case rel => exact ⟨k + 1, by omega, by omega, by go_num, HBW, csW, HF⟩))
                                      | (go_big_quiet (fail); go_wp2; go_roundg (n - (k + 1)); (case measure => omega); (case rel => exact ⟨k + 1, by omega, by omega, by go_num, Below.drewNs HBW.out _, csW, HF⟩))
                                | true =>
                                  cases en with
                                  | false =>
                                    have en2 : (xn != 0) = true := by unfold bne; rw [hen]; rfl
                                    have en4 : ¬ xn = 0 := by simpa using hen
                                    as_aux_lemma =>
                                      have HF : Hid (∀ i, i < k + 1 → nodeE n (nd S i) = 0) := N0.out (by rw [FO.out]; rfl)
                                      go_wp2_with (first | (go_at_call_of 51 (Value.int .i64 xp); refine (RP _).mono ?_; rintro e w' ⟨rfl, rfl⟩) | (go_at_call_of 51 (Value.int .i64 xh); refine (RH _).mono ?_; rintro e w' ⟨rfl, rfl⟩))
                                      first
                                        | (go_roundg (n - (k + 1)); (case measure => omega); (case rel => exact ⟨k + 1, by omega, by omega, by go_num, HBW, csW, HF⟩))
                                        | (go_big_quiet (fail); go_wp2; go_roundg (n - (k + 1)); (case measure => omega); (case rel => exact ⟨k + 1, by omega, by omega, by go_num, Below.drewNs HBW.out _, csW, HF⟩))
                                  | true =>
                                    have en2 : (xn != 0) = false := by unfold bne; rw [hen]; rfl
                                    have en3 : decide (xn = 0) = true := by simpa using hen
                                    have en5 : decide (¬ xn = 0) = false := by simpa using hen
                                    as_aux_lemma =>
                                      have HF : Hid (R = 3) := F3.out (by rw [FO.out]; rfl)
                                      go_wp2_with (first | (go_at_call_of 51 (Value.int .i64 xp); refine (RP _).mono ?_; rintro e w' ⟨rfl, rfl⟩) | (go_at_call_of 51 (Value.int .i64 xh); refine (RH _).mono ?_; rintro e w' ⟨rfl, rfl⟩))
                                      first
                                        | (go_ret; exact ⟨by rw [HF.out]; rfl, HBW.out⟩)
                                        | (go_big_quiet (fail); go_wp2; go_ret; exact ⟨by rw [HF.out]; rfl, Below.drewNs HBW.out _⟩)
                              | true =>
                                cases xu with
                                | false =>
                                  as_aux_lemma =>
                                    have HF : Hid (R = 3) := F3.out (by rw [FO.out]; cases en <;> rfl)
                                    go_wp2_with (first | (go_at_call_of 51 (Value.int .i64 xp); refine (RP _).mono ?_; rintro e w' ⟨rfl, rfl⟩) | (go_at_call_of 51 (Value.int .i64 xh); refine (RH _).mono ?_; rintro e w' ⟨rfl, rfl⟩))
                                    first
                                      | (go_ret; exact ⟨by rw [HF.out]; rfl, HBW.out⟩)
                                      | (go_big_quiet (fail); go_wp2; go_ret; exact ⟨by rw [HF.out]; rfl, Below.drewNs HBW.out _⟩)
                                | true =>
                                  cases en with
                                  | false =>
                                    have en2 : (xn != 0) = true := by unfold bne; rw [hen]; rfl
                                    have en4 : ¬ xn = 0 := by simpa using hen
                                    as_aux_lemma =>
                                      have HF : Hid (R = 3) := F3.out (by rw [FO.out]; rfl)
                                      go_wp2_with (first | (go_at_call_of 51 (Value.int .i64 xp); refine (RP _).mono ?_; rintro e w' ⟨rfl, rfl⟩) | (go_at_call_of 51 (Value.int .i64 xh); refine (RH _).mono ?_; rintro e w' ⟨rfl, rfl⟩))
                                      first
                                        | (go_ret; exact ⟨by rw [HF.out]; rfl, HBW.out⟩)
                                        | (go_big_quiet (fail); go_wp2; go_ret; exact ⟨by rw [HF.out]; rfl, Below.drewNs HBW.out _⟩)
                                  | true =>
                                    have en2 : (xn != 0) = false := by unfold bne; rw [hen]; rfl
                                    have en3 : decide (xn = 0) = true := by simpa using hen
                                    have en5 : decide (¬ xn = 0) = false := by simpa using hen
                                    as_aux_lemma =>
                                      have HF : Hid (R = 3) := F3.out (by rw [FO.out]; rfl)
                                      go_wp2_with (first | (go_at_call_of 51 (Value.int .i64 xp); refine (RP _).mono ?_; rintro e w' ⟨rfl, rfl⟩) | (go_at_call_of 51 (Value.int .i64 xh); refine (RH _).mono ?_; rintro e w' ⟨rfl, rfl⟩))
                                      first
                                        | (go_ret; exact ⟨by rw [HF.out]; rfl, HBW.out⟩)
                                        | (go_big_quiet (fail); go_wp2; go_ret; exact ⟨by rw [HF.out]; rfl, Below.drewNs HBW.out _⟩)
    · obtain rfl : k = n := by omega
      have ALL : Hid (∀ i, i < k → nodeE k (nd S i) = 0) := HA
      have RT : Hid (R = treeE S) := CT.out ALL.out
      have OT2 : Hid ((∀ i, i < k → OkB S i) → R = 0) := fun h => RT.out.trans (OT.out ALL.out h)
      have BT2 : Hid (∀ i, i < k → ¬ OkB S i → R = 6) := fun i hi h => RT.out.trans (BT.out ALL.out i hi h)
      clear HA ALL RT CT OT BT CF
      obtain ⟨n, rfl⟩ : ∃ n, n = k := ⟨_, rfl⟩
      have DL : Hid (∀ (i : Nat) W, NdsAt W a S → Calls _ _ _ _ _) := fun i W hW => rLine_any a c S (i : Int) W (by rw [HN.out]; exact hM) hW
      rw [HN.out] at DL
      go_wp2_with fail
      go_loopg [139] n (fun g s139 w2 => ∃ i : Nat, i ≤ n ∧ n - i ≤ g ∧ s139 = .int .i64 i ∧ Hid (Below w.heap.size w w2) ∧ w2.cell? ⟨w.heap.size, 0, none⟩ = some (.slice a n c) ∧ Hid (∀ j, j < i → OkB S j))
      case atStart => exact ⟨0, by omega, by omega, rfl, HB, cs, fun j hj => absurd hj (Nat.not_lt_zero _)⟩
      case round =>
        clear HB cs hsz
        obtain ⟨i, hi, hg2, rfl, HB, cs, HO⟩ := hrel
        have hsz := World.block_lt_of_cell? _ _ cs
        by_cases hil : i < n
        · have hil2 : (i : Int) < (n : Int) := by omega
          obtain ⟨nb, no, ea, k0, k1, k2, k3, k4, ⟨ka, kc, k5, _⟩, k6, k7⟩ := (HS.out.below HB.out) i (by rw [HN.out]; exact hil)
          subst ea
          have hnb := World.block_lt_of_cell? _ _ k0
          have BAD : Hid (¬ OkB S i → R = 6) := fun h => BT2.out i hil h
          obtain ⟨xu, hxu⟩ : ∃ u, (nd S i).u = u := ⟨_, rfl⟩
          obtain ⟨xp, hxp⟩ : ∃ p, (nd S i).p = p := ⟨_, rfl⟩
          have HXU : Hid ((nd S i).u = xu) := hxu
          have HXP : Hid ((nd S i).p = xp) := hxp
          rw [hxu] at k0
          rw [hxp] at k4
          clear hxu hxp
          obtain ⟨V, rfl⟩ : ∃ V, V = wr := ⟨_, rfl⟩
          obtain ⟨W1, hW1⟩ : ∃ W1, W1 = V.alloc (.cells #[.bool xu, .int .i64 (nd S i).n, .int .i64 (nd S i).t, .int .i64 (nd S i).m, .int .i64 xp, .slice ka (nd S i).ks.length kc, .int .i64 (nd S i).h, .bool (nd S i).c] 35) := ⟨_, rfl⟩
          have HB1 : Hid (Below w.heap.size w W1) := by rw [hW1]; exact HB.out.alloc HB.out.size _
          have c1 : W1.cell? ⟨w.heap.size, 0, none⟩ = some (.slice (some ⟨nb, no, none⟩) n c) := by rw [hW1]; go_simp
          have u1 : W1.cell? ⟨V.heap.size, 0, none⟩ = some (.bool xu) := by rw [hW1]; go_simp
          have p1 : W1.cell? ⟨V.heap.size, 4, none⟩ = some (.int .i64 xp) := by rw [hW1]; go_simp
          have hV : w.heap.size < V.heap.size := hsz
          go_wp2_with fail
          rw [← hW1]
          clear hW1 k0 k1 k2 k3 k4 k5 k6 k7 cs hsz
          have Z0 : Hid (cntU S 0 i = 0 ∧ hostsN S 0 i = 0) := ⟨cntU_zero S i, rfl⟩
          go_loopg [10, 11, 147] n (fun g s10 s11 s147 w3 => ∃ (k a1 b1 : Nat) (A B : Int), k ≤ n ∧ n - k ≤ g ∧ s147 = .int .i64 k ∧ s10 = .int .i64 A ∧ s11 = .int .i64 B ∧ A = a1 ∧ B = b1 ∧ a1 = cntU S k i ∧ b1 = hostsN S k i ∧ Hid (Below W1.heap.size W1 w3) ∧ Hid (∀ k', k' < k → StandC S i k'))
          case atStart => exact ⟨0, 0, 0, 0, 0, by omega, by omega, rfl, rfl, rfl, rfl, rfl, Z0.out.1.symm, Z0.out.2.symm, Below.refl _ _, fun j hj => absurd hj (Nat.not_lt_zero _)⟩
          case round =>
            obtain ⟨k, a1, b1, A, B, hk, hg3, rfl, rfl, rfl, hAa, hBb, ha1, hb1, HR, HST⟩ := hrel
            have HA1 : Hid (a1 = cntU S k i) := ha1
            have HB2 : Hid (b1 = hostsN S k i) := hb1
            clear ha1 hb1 Z0
            have HBr : Hid (Below w.heap.size w wr) := HB1.out.trans (HR.out.mono HB1.out.size)
            have l0 := (HR.out.cell (p := ⟨w.heap.size, 0, none⟩) (World.block_lt_of_cell? _ _ c1)).trans c1
            have l1 := (HR.out.cell (p := ⟨V.heap.size, 0, none⟩) (World.block_lt_of_cell? _ _ u1)).trans u1
            have l2 := (HR.out.cell (p := ⟨V.heap.size, 4, none⟩) (World.block_lt_of_cell? _ _ p1)).trans p1
            have q0 := World.block_lt_of_cell? _ _ l0
            have q1 := World.block_lt_of_cell? _ _ l1
            by_cases hkl : k < n
            · as_aux_lemma =>
                  subst hAa hBb
                  have hkl2 : (k : Int) < (n : Int) := by omega
                  obtain ⟨nb2, no2, ea2, k0, k1, k2, k3, k4, ⟨ka2, kc2, k5, hks⟩, k6, k7⟩ := (HS.out.below HBr.out) k (by rw [HN.out]; exact hkl)
                  cases ea2
                  have hnb2 := World.block_lt_of_cell? _ _ k0
                  have hbk := HBig.out k (by rw [HN.out]; exact hkl)
                  obtain ⟨ks, hks'⟩ : ∃ ks, (nd S k).ks = ks := ⟨_, rfl⟩
                  obtain ⟨hh, hhh⟩ : ∃ h, (nd S k).h = h := ⟨_, rfl⟩
                  have HKE : Hid ((nd S k).ks = ks) := hks'
                  have HHE : Hid ((nd S k).h = hh) := hhh
                  rw [hks'] at hks k5 hbk
                  rw [hhh] at k6
                  clear hks' hhh
                  obtain ⟨xl, hxl⟩ : ∃ l, ks.length = l := ⟨_, rfl⟩
                  have HXL : Hid (ks.length = xl) := hxl
                  rw [hxl] at k5 hbk
                  clear hxl
                  obtain ⟨W2, hW2⟩ : ∃ W2, W2 = wr.alloc (.cells #[.bool (nd S k).u, .int .i64 (nd S k).n, .int .i64 (nd S k).t, .int .i64 (nd S k).m, .int .i64 (nd S k).p, .slice ka2 xl kc2, .int .i64 hh, .bool (nd S k).c] 35) := ⟨_, rfl⟩
                  have HR2 : Hid (Below W1.heap.size W1 W2) := by rw [hW2]; exact HR.out.alloc HR.out.size _
                  have HBW : Hid (Below w.heap.size w W2) := HB1.out.trans (HR2.out.mono HB1.out.size)
                  have HKW : Hid (IntsAt W2 ka2 ks) := by rw [hW2]; exact hks.below ((Below.refl _ _).alloc (Nat.le_refl _) _)
                  clear hks
                  have d0 : W2.cell? ⟨w.heap.size, 0, none⟩ = some (.slice (some ⟨nb, no, none⟩) n c) := by rw [hW2]; go_simp
                  have d1 : W2.cell? ⟨V.heap.size, 0, none⟩ = some (.bool xu) := by rw [hW2]; go_simp
                  have d2 : W2.cell? ⟨V.heap.size, 4, none⟩ = some (.int .i64 xp) := by rw [hW2]; go_simp
                  have d5 : W2.cell? ⟨wr.heap.size, 5, none⟩ = some (.slice ka2 xl kc2) := by rw [hW2]; go_simp
                  have d6 : W2.cell? ⟨wr.heap.size, 6, none⟩ = some (.int .i64 hh) := by rw [hW2]; go_simp
                  go_wp2_with fail
                  rw [← hW2]
                  clear hW2 k0 k1 k2 k3 k4 k5 k6 k7 l0 l1 l2 q0 q1 HR
                  have SB : Hid (∀ q, q < xl → ¬ (ks.getD q 0 ≠ -1 ∧ (ks.getD q 0 = (i : Int) → xu = true ∧ xp = k)) → R = 6) := fun q hq h => BAD.out (standC_bad (by rw [HN.out]; exact hkl) fun hs => h (stand_kid HKE.out HXU.out HXP.out (by rw [HXL.out]; exact hq) hs))
                  have UZ : Hid (xp = k → a1 = 0) := fun e => HA1.out.trans (standU_zero (by rw [HN.out]; omega) HST.out (fun k' hk' e' => by rw [HXP.out, e] at e'; omega))
                  have ST : Hid ((∀ j, j < xl → ks.getD j 0 ≠ -1 ∧ (ks.getD j 0 = (i : Int) → xu = true ∧ xp = k)) → (hh = (i : Int) → xu = true) → ∀ k', k' < k + 1 → StandC S i k') := fun h1 h2 k' hk' => by
                    by_cases e : k' = k
                    · subst e; exact stand_all HKE.out HXU.out HXP.out HHE.out (by rw [HXL.out]; exact h1) h2
                    · exact HST.out k' (by omega)
                  have CK0 : Hid (cntK ks 0 i = 0) := cntK_zero ks i
                  have CKS : Hid (∀ q, q < xl → cntK ks (q + 1) i = cntK ks q i + (if ks.getD q 0 = (i : Int) then 1 else 0)) := fun q hq => cntK_succ ks q i (by rw [HXL.out]; exact hq)
                  have CKL : Hid (∀ q, cntK ks q i ≤ q) := fun q => cntK_le ks q i
                  have CU0 : a1 + cntK ks xl i = cntU S (k + 1) i := by
                    have h1 := cntU_succ S k i (by rw [HN.out]; exact hkl)
                    have h2 := cntK_all ks i
                    rw [HXL.out] at h2
                    rw [h1, HKE.out, HA1.out, h2]
                  have CU : Hid (a1 + cntK ks xl i = cntU S (k + 1) i) := CU0
                  have CH0 : hostsN S (k + 1) i = b1 + (if hh = (i : Int) then 1 else 0) := by
                    have h1 : hostsN S (k + 1) i = hostsN S k i + (if (nd S k).h = (i : Int) then 1 else 0) := rfl
                    rw [h1, HHE.out, HB2.out]
                  have CH : Hid (hostsN S (k + 1) i = b1 + (if hh = (i : Int) then 1 else 0)) := CH0
                  clear CU0 CH0
                  have hb1n : b1 ≤ 24 := by have := hostsN_le S i k; rw [HB2.out]; omega
                  have HSB : Hid (hh = (i : Int) → xu = false → R = 6) := fun e1 e2 => BAD.out (standC_bad (by rw [HN.out]; exact hkl) fun hs => by have := hs.2 (HHE.out.trans e1); rw [HXU.out, e2] at this; cases this)
                  clear HA1 HB2 HST HKE HHE BAD
                  go_loopg [10, 155] xl (fun g2 s10 s155 w5 => ∃ (q a2 : Nat), q ≤ xl ∧ xl - q ≤ g2 ∧ s155 = .int .i64 q ∧ s10 = .int .i64 a2 ∧ a2 = a1 + cntK ks q i ∧ w5 = W2 ∧ Hid (∀ j, j < q → ks.getD j 0 ≠ -1 ∧ (ks.getD j 0 = (i : Int) → xu = true ∧ xp = k)))
                  case atStart => exact ⟨0, a1, by omega, by omega, rfl, rfl, by rw [CK0.out]; rfl, rfl, fun j hj => absurd hj (Nat.not_lt_zero _)⟩
                  case round =>
                    obtain ⟨q, a2, hq, hg4, rfl, rfl, ha2, hw5, HK⟩ := hrel
                    have HA2 : Hid (a2 = a1 + cntK ks q i) := ha2
                    have h2 := hw5.symm
                    clear hw5 ha2 CK0
                    subst h2
                    by_cases hql : q < xl
                    · have hql2 : (q : Int) < (xl : Int) := by omega
                      obtain ⟨kb, ko, eka, hkc⟩ := HKW.out q (by rw [HXL.out]; exact hql)
                      subst eka
                      have SBq : Hid (¬ (ks.getD q 0 ≠ -1 ∧ (ks.getD q 0 = (i : Int) → xu = true ∧ xp = k)) → R = 6) := SB.out q hql
                      have CKq := CKS.out q hql
                      have HKq : Hid ((ks.getD q 0 ≠ -1 ∧ (ks.getD q 0 = (i : Int) → xu = true ∧ xp = k)) → ∀ j, j < q + 1 → ks.getD j 0 ≠ -1 ∧ (ks.getD j 0 = (i : Int) → xu = true ∧ xp = k)) := fun h j hj => by
                        by_cases e : j = q
                        · subst e; exact h
                        · exact HK.out j (by omega)
                      have HCK : Hid (cntK ks (q + 1) i = cntK ks q i + (if ks.getD q 0 = (i : Int) then 1 else 0)) := CKq
                      clear CKq CKS SB CU
                      generalize hyy : ks.getD q 0 = y at hkc SBq HKq HCK
                      clear hyy
                      by_cases y1 : y = -1
                      · have HF : Hid (R = 6) := SBq.out fun h => h.1 y1
                        subst y1
                        clear SBq HKq HCK
                        first
                          | (go_wp2_with fail; go_ret; exact ⟨by rw [HF.out]; rfl, HBW.out⟩)
                          | (go_wp2_with fail; go_big_quiet (fail); go_wp2_with fail; go_ret; exact ⟨by rw [HF.out]; rfl, Below.drewNs HBW.out _⟩)
                      · by_cases y2 : y = (i : Int)
                        · subst y2
                          cases xu with
                          | false =>
                            have HF : Hid (R = 6) := SBq.out fun h => by cases (h.2 rfl).1
                            clear SBq HKq HCK
                            first
                              | (go_wp2_with fail; go_ret; exact ⟨by rw [HF.out]; rfl, HBW.out⟩)
                              | (go_wp2_with fail; go_big_quiet (fail); go_wp2_with fail; go_ret; exact ⟨by rw [HF.out]; rfl, Below.drewNs HBW.out _⟩)
                          | true =>
                            by_cases y3 : xp = (k : Int)
                            · have ha0 := UZ.out y3
                              have hle := CKL.out q
                              have ha2 := HA2.out
                              have hbig : a2 + 1 ≤ 9223372036854775807 := by omega
                              have NA : Hid (a2 + 1 = a1 + cntK ks (q + 1) i) := (show a2 + 1 = a1 + cntK ks (q + 1) i from by rw [HCK.out, if_pos rfl, HA2.out]; omega)
                              have NK : Hid _ := HKq.out ⟨y1, fun _ => ⟨rfl, y3⟩⟩
                              clear ha0 hle ha2 SBq HKq HCK
                              subst y3
                              first
                                | (go_wp2_with fail; go_roundg (xl - (q + 1)); (case measure => omega); (case rel => exact ⟨q + 1, a2 + 1, by omega, by omega, by go_num, by go_num, NA.out, rfl, NK⟩))
                                | (go_wp2_with fail; go_big_quiet (fail); go_wp2_with fail; go_roundg (xl - (q + 1)); (case measure => omega); (case rel => exact ⟨q + 1, a2 + 1, by omega, by omega, by go_num, by go_num, NA.out, rfl, NK⟩))
                            · have HF : Hid (R = 6) := SBq.out fun h => y3 (h.2 rfl).2
                              clear SBq HKq HCK
                              first
                                | (go_wp2_with fail; go_ret; exact ⟨by rw [HF.out]; rfl, HBW.out⟩)
                                | (go_wp2_with fail; go_big_quiet (fail); go_wp2_with fail; go_ret; exact ⟨by rw [HF.out]; rfl, Below.drewNs HBW.out _⟩)
                        · have NA : Hid (a2 = a1 + cntK ks (q + 1) i) := (show a2 = a1 + cntK ks (q + 1) i from by rw [HCK.out, if_neg y2, HA2.out]; omega)
                          have NK : Hid _ := HKq.out ⟨y1, fun e => absurd e y2⟩
                          clear SBq HKq HCK
                          first
                            | (go_wp2_with fail; go_roundg (xl - (q + 1)); (case measure => omega); (case rel => exact ⟨q + 1, a2, by omega, by omega, by go_num, rfl, NA.out, rfl, NK⟩))
                            | (go_wp2_with fail; go_big_quiet (fail); go_wp2_with fail; go_roundg (xl - (q + 1)); (case measure => omega); (case rel => exact ⟨q + 1, a2, by omega, by omega, by go_num, rfl, NA.out, rfl, NK⟩))
                    · obtain rfl : xl = q := by omega
                      have NST : Hid ((hh = (i : Int) → xu = true) → ∀ k', k' < k + 1 → StandC S i k') := fun h => ST.out HK.out h
                      have CU2 : Hid (a2 = cntU S (k + 1) i) := HA2.out.trans CU.out
                      clear HK ST SB CKS CKL CU HA2 HKW UZ
                      by_cases y1 : hh = (i : Int)
                      · cases xu with
                        | false =>
                          have HF : Hid (R = 6) := HSB.out y1 rfl
                          subst y1
                          first
                            | (go_wp2_with fail; go_ret; exact ⟨by rw [HF.out]; rfl, HBW.out⟩)
                            | (go_wp2_with fail; go_big_quiet (fail); go_wp2_with fail; go_ret; exact ⟨by rw [HF.out]; rfl, Below.drewNs HBW.out _⟩)
                        | true =>
                          have CH2 : Hid (b1 + 1 = hostsN S (k + 1) i) := (show b1 + 1 = hostsN S (k + 1) i from by rw [CH.out, if_pos y1])
                          have NS2 : Hid _ := NST.out (fun _ => rfl)
                          clear CH NST HSB
                          subst y1
                          first
                            | (go_wp2_with fail; go_roundg (n - (k + 1)); (case measure => omega); (case rel => exact ⟨k + 1, a2, b1 + 1, _, _, by omega, by omega, by go_num, rfl, by go_num, rfl, rfl, CU2.out, CH2.out, HR2, NS2⟩))
                            | (go_wp2_with fail; go_big_quiet (fail); go_wp2_with fail; go_roundg (n - (k + 1)); (case measure => omega); (case rel => exact ⟨k + 1, a2, b1 + 1, _, _, by omega, by omega, by go_num, rfl, by go_num, rfl, rfl, CU2.out, CH2.out, HR2, NS2⟩))
                      · have CH2 : Hid (b1 = hostsN S (k + 1) i) := (show b1 = hostsN S (k + 1) i from by rw [CH.out, if_neg y1]; omega)
                        have NS2 : Hid _ := NST.out (fun e => absurd e y1)
                        clear CH NST HSB
                        first
                          | (go_wp2_with fail; go_roundg (n - (k + 1)); (case measure => omega); (case rel => exact ⟨k + 1, a2, b1, _, _, by omega, by omega, by go_num, rfl, rfl, rfl, rfl, CU2.out, CH2.out, HR2, NS2⟩))
                          | (go_wp2_with fail; go_big_quiet (fail); go_wp2_with fail; go_roundg (n - (k + 1)); (case measure => omega); (case rel => exact ⟨k + 1, a2, b1, _, _, by omega, by omega, by go_num, rfl, rfl, rfl, rfl, CU2.out, CH2.out, HR2, NS2⟩))
            · as_aux_lemma =>
                  obtain rfl : k = n := by omega
                  obtain ⟨n, rfl⟩ : ∃ n, n = k := ⟨_, rfl⟩
                  have OKI : Hid (a1 ≤ 1 → b1 ≤ 1 → (0 < a1 ↔ xp ≠ -1) → (lineF S (n + 1) i).length ≤ n → OkB S i) := fun h1 h2 h3 h4 => by
                    refine ⟨by rw [HN.out]; exact HST.out, ?_, ?_, ?_, ?_⟩
                    · rw [HN.out, ← HA1.out]; exact h1
                    · rw [HN.out, ← HB2.out]; exact h2
                    · rw [HN.out, ← HA1.out, HXP.out]; exact h3
                    · rw [HN.out]; exact h4
                  have NOK : Hid (OkB S i → a1 ≤ 1 ∧ b1 ≤ 1 ∧ (0 < a1 ↔ xp ≠ -1) ∧ (lineF S (n + 1) i).length ≤ n) := fun h => by
                    obtain ⟨_, h1, h2, h3, h4⟩ := h
                    rw [HN.out, ← HA1.out] at h1
                    rw [HN.out, ← HB2.out] at h2
                    rw [HN.out, ← HA1.out, HXP.out] at h3
                    rw [HN.out] at h4
                    exact ⟨h1, h2, h3, h4⟩
                  have HBW : Hid (Below w.heap.size w wr) := HBr
                  clear HA1 HB2 HST
                  have HAa : Hid (A = a1) := hAa
                  have HBb : Hid (B = b1) := hBb
                  by_cases e1 : 1 < a1
                  · have HF : Hid (R = 6) := BAD.out fun h => by have := (NOK.out h).1; omega
                    have g1 : decide ((1 : Int) < A) = true := decide_eq_true (by omega)
                    clear hAa hBb
                    first
                      | (go_wp2_with fail; go_ret; exact ⟨by rw [HF.out]; rfl, HBW.out⟩)
                      | (go_wp2_with fail; go_big_quiet (fail); go_wp2_with fail; go_ret; exact ⟨by rw [HF.out]; rfl, Below.drewNs HBW.out _⟩)
                  · have g1 : decide ((1 : Int) < A) = false := decide_eq_false (by omega)
                    by_cases e2 : 1 < b1
                    · have HF : Hid (R = 6) := BAD.out fun h => by have := (NOK.out h).2.1; omega
                      have g2 : decide ((1 : Int) < B) = true := decide_eq_true (by omega)
                      clear hAa hBb
                      first
                        | (go_wp2_with fail; go_ret; exact ⟨by rw [HF.out]; rfl, HBW.out⟩)
                        | (go_wp2_with fail; go_big_quiet (fail); go_wp2_with fail; go_ret; exact ⟨by rw [HF.out]; rfl, Below.drewNs HBW.out _⟩)
                    · have g2 : decide ((1 : Int) < B) = false := decide_eq_false (by omega)
                      by_cases e5 : a1 = 0
                      · have g3 : decide ((0 : Int) < A) = false := decide_eq_false (by omega)
                        clear hAa hBb
                        by_cases e6 : xp = -1
                        · subst e6
                          have NXT : Hid ((lineF S (n + 1) i).length ≤ n → ∀ j, j < i + 1 → OkB S j) := fun h j hj => by
                            by_cases e : j = i
                            · subst e; exact OKI.out (by omega) (by omega) ⟨fun h => absurd h (by omega), fun h => absurd rfl h⟩ h
                            · exact HO.out j (by omega)
                          have BD : Hid (n < (lineF S (n + 1) i).length → R = 6) := fun h => BAD.out fun ho => by have := (NOK.out ho).2.2.2; omega
                          clear OKI NOK BAD
                          obtain ⟨ll, hll⟩ : ∃ l, (lineF S (n + 1) i).length = l := ⟨_, rfl⟩
                          have HLL : Hid ((lineF S (n + 1) i).length = ll) := hll
                          rw [hll] at NXT BD
                          clear hll
                          by_cases e10 : n < ll
                          · have HF : Hid (R = 6) := BD.out e10
                            have g5 : decide ((n : Int) < (ll : Int)) = true := decide_eq_true (by omega)
                            go_wp2_with fail
                            go_region_held3 (fun w'' => w''.cell? ⟨w.heap.size, 0, none⟩ = some (.slice (some ⟨nb, no, none⟩) n c) ∧ w''.cell? ⟨V.heap.size, 4, none⟩ = some (.int .i64 (-1))) (go_keep) (first | (go_at_call 36; refine (Calls.mono (DL.out i _ ?nd) ?_); (case nd => exact HS.out.below HBW.out.drew); rintro e w6 ⟨v, rfl, hb6, ho6⟩; obtain ⟨pa, pc, hv, _⟩ := own_slice ho6; rw [HLL.out] at hv; subst hv; have HB6 : Hid (Below w.heap.size w w6) := HBW.out.drew.trans (hb6.mono HBW.out.size); have m0 : w6.cell? ⟨w.heap.size, 0, none⟩ = some (.slice (some ⟨nb, no, none⟩) n c) := (hb6.cell (by exact q0)).trans l0; have m2 : w6.cell? ⟨V.heap.size, 4, none⟩ = some (.int .i64 (-1)) := (hb6.cell (by exact q1)).trans l2; have s6 : w.heap.size < w6.heap.size := Nat.lt_of_lt_of_le q0 hb6.size; have s7 : V.heap.size < w6.heap.size := Nat.lt_of_lt_of_le q1 hb6.size; clear hb6 ho6))
                            go_wp2_with fail
                            go_ret
                            first | exact ⟨by rw [HF.out]; rfl, HB6.out⟩ | exact ⟨by rw [HF.out]; rfl, Below.drewNs HB6.out _⟩
                          · have HF : Hid _ := NXT.out (by omega)
                            have g5 : decide ((n : Int) < (ll : Int)) = false := decide_eq_false (by omega)
                            go_wp2_with fail
                            go_region_held3 (fun w'' => w''.cell? ⟨w.heap.size, 0, none⟩ = some (.slice (some ⟨nb, no, none⟩) n c) ∧ w''.cell? ⟨V.heap.size, 4, none⟩ = some (.int .i64 (-1))) (go_keep) (first | (go_at_call 36; refine (Calls.mono (DL.out i _ ?nd) ?_); (case nd => exact HS.out.below HBW.out.drew); rintro e w6 ⟨v, rfl, hb6, ho6⟩; obtain ⟨pa, pc, hv, _⟩ := own_slice ho6; rw [HLL.out] at hv; subst hv; have HB6 : Hid (Below w.heap.size w w6) := HBW.out.drew.trans (hb6.mono HBW.out.size); have m0 : w6.cell? ⟨w.heap.size, 0, none⟩ = some (.slice (some ⟨nb, no, none⟩) n c) := (hb6.cell (by exact q0)).trans l0; have m2 : w6.cell? ⟨V.heap.size, 4, none⟩ = some (.int .i64 (-1)) := (hb6.cell (by exact q1)).trans l2; have s6 : w.heap.size < w6.heap.size := Nat.lt_of_lt_of_le q0 hb6.size; have s7 : V.heap.size < w6.heap.size := Nat.lt_of_lt_of_le q1 hb6.size; clear hb6 ho6))
                            go_wp2_with fail
                            go_roundg (n - (i + 1))
                            case measure => omega
                            case rel => first | exact ⟨i + 1, by omega, by omega, by go_num, HB6, m0, HF⟩ | exact ⟨i + 1, by omega, by omega, by go_num, Below.drewNs HB6.out _, m0, HF⟩
                        · have HF : Hid (R = 6) := BAD.out fun h => by have := (NOK.out h).2.2.1.2 e6; omega
                          have e7 : (xp != -1) = true := by simpa using e6
                          have e8 : decide (xp = -1) = false := decide_eq_false e6
                          have e9 : (xp == -1) = false := by simpa using e6
                          first
                            | (go_wp2_with fail; go_ret; exact ⟨by rw [HF.out]; rfl, HBW.out⟩)
                            | (go_wp2_with fail; go_big_quiet (fail); go_wp2_with fail; go_ret; exact ⟨by rw [HF.out]; rfl, Below.drewNs HBW.out _⟩)
                      · have g3 : decide ((0 : Int) < A) = true := decide_eq_true (by omega)
                        clear hAa hBb
                        by_cases e6 : xp = -1
                        · have HF : Hid (R = 6) := BAD.out fun h => (NOK.out h).2.2.1.1 (by omega) e6
                          subst e6
                          first
                            | (go_wp2_with fail; go_ret; exact ⟨by rw [HF.out]; rfl, HBW.out⟩)
                            | (go_wp2_with fail; go_big_quiet (fail); go_wp2_with fail; go_ret; exact ⟨by rw [HF.out]; rfl, Below.drewNs HBW.out _⟩)
                        · have e7 : (xp != -1) = true := by simpa using e6
                          have e8 : decide (xp = -1) = false := decide_eq_false e6
                          have e9 : (xp == -1) = false := by simpa using e6
                          have NXT : Hid ((lineF S (n + 1) i).length ≤ n → ∀ j, j < i + 1 → OkB S j) := fun h j hj => by
                            by_cases e : j = i
                            · subst e; exact OKI.out (by omega) (by omega) ⟨fun _ => e6, fun _ => by omega⟩ h
                            · exact HO.out j (by omega)
                          have BD : Hid (n < (lineF S (n + 1) i).length → R = 6) := fun h => BAD.out fun ho => by have := (NOK.out ho).2.2.2; omega
                          clear OKI NOK BAD
                          obtain ⟨ll, hll⟩ : ∃ l, (lineF S (n + 1) i).length = l := ⟨_, rfl⟩
                          have HLL : Hid ((lineF S (n + 1) i).length = ll) := hll
                          rw [hll] at NXT BD
                          clear hll
                          by_cases e10 : n < ll
                          · have HF : Hid (R = 6) := BD.out e10
                            have g5 : decide ((n : Int) < (ll : Int)) = true := decide_eq_true (by omega)
                            go_wp2_with fail
                            go_region_held3 (fun w'' => w''.cell? ⟨w.heap.size, 0, none⟩ = some (.slice (some ⟨nb, no, none⟩) n c) ∧ w''.cell? ⟨V.heap.size, 4, none⟩ = some (.int .i64 xp)) (go_keep) (first | (go_at_call 36; refine (Calls.mono (DL.out i _ ?nd) ?_); (case nd => exact HS.out.below HBW.out.drew); rintro e w6 ⟨v, rfl, hb6, ho6⟩; obtain ⟨pa, pc, hv, _⟩ := own_slice ho6; rw [HLL.out] at hv; subst hv; have HB6 : Hid (Below w.heap.size w w6) := HBW.out.drew.trans (hb6.mono HBW.out.size); have m0 : w6.cell? ⟨w.heap.size, 0, none⟩ = some (.slice (some ⟨nb, no, none⟩) n c) := (hb6.cell (by exact q0)).trans l0; have m2 : w6.cell? ⟨V.heap.size, 4, none⟩ = some (.int .i64 xp) := (hb6.cell (by exact q1)).trans l2; have s6 : w.heap.size < w6.heap.size := Nat.lt_of_lt_of_le q0 hb6.size; have s7 : V.heap.size < w6.heap.size := Nat.lt_of_lt_of_le q1 hb6.size; clear hb6 ho6))
                            go_wp2_with fail
                            go_ret
                            first | exact ⟨by rw [HF.out]; rfl, HB6.out⟩ | exact ⟨by rw [HF.out]; rfl, Below.drewNs HB6.out _⟩
                          · have HF : Hid _ := NXT.out (by omega)
                            have g5 : decide ((n : Int) < (ll : Int)) = false := decide_eq_false (by omega)
                            go_wp2_with fail
                            go_region_held3 (fun w'' => w''.cell? ⟨w.heap.size, 0, none⟩ = some (.slice (some ⟨nb, no, none⟩) n c) ∧ w''.cell? ⟨V.heap.size, 4, none⟩ = some (.int .i64 xp)) (go_keep) (first | (go_at_call 36; refine (Calls.mono (DL.out i _ ?nd) ?_); (case nd => exact HS.out.below HBW.out.drew); rintro e w6 ⟨v, rfl, hb6, ho6⟩; obtain ⟨pa, pc, hv, _⟩ := own_slice ho6; rw [HLL.out] at hv; subst hv; have HB6 : Hid (Below w.heap.size w w6) := HBW.out.drew.trans (hb6.mono HBW.out.size); have m0 : w6.cell? ⟨w.heap.size, 0, none⟩ = some (.slice (some ⟨nb, no, none⟩) n c) := (hb6.cell (by exact q0)).trans l0; have m2 : w6.cell? ⟨V.heap.size, 4, none⟩ = some (.int .i64 xp) := (hb6.cell (by exact q1)).trans l2; have s6 : w.heap.size < w6.heap.size := Nat.lt_of_lt_of_le q0 hb6.size; have s7 : V.heap.size < w6.heap.size := Nat.lt_of_lt_of_le q1 hb6.size; clear hb6 ho6))
                            go_wp2_with fail
                            go_roundg (n - (i + 1))
                            case measure => omega
                            case rel => first | exact ⟨i + 1, by omega, by omega, by go_num, HB6, m0, HF⟩ | exact ⟨i + 1, by omega, by omega, by go_num, Below.drewNs HB6.out _, m0, HF⟩
        · obtain rfl : i = n := by omega
          have HF : Hid (R = 0) := OT2.out HO.out
          go_wp2
          go_ret
          exact ⟨by rw [HF.out]; rfl, HB.out⟩
end Go.Proofs.Ytjlapfgghljidab
