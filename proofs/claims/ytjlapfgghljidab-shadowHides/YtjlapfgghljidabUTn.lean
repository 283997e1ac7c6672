/-
  The family of the laws' closed facts: what family answers.
-/
import Derived.Test.YtjlapfgghljidabUSoTmSr
import Derived.BigRegion
namespace Go.Proofs.Ytjlapfgghljidab
open Go.RowKit

/-- The loop's state: the store so far, the hands so far. -/
def FamI (W2 : World) (b3 bh : Nat) (k : Nat) (wr : World) : Prop :=
  Off (fun b => b = b3 ∨ b = bh) W2 wr ∧ (∃ g, wr.cell? ⟨b3, 0, none⟩ = some (.slice (some ⟨g, 0, none⟩) 6 6) ∧ NdsAt wr (some ⟨g, 0, none⟩) (SK k)) ∧
  (∀ i, i < 3 → wr.cell? ⟨bh, i * 2, none⟩ = some (.int .i64 (if i < k then (i : Int) else 0)) ∧ wr.cell? ⟨bh, i * 2 + 1, none⟩ = some (.int .i64 (if i < k then 1 else 0))) ∧
  (∀ o, wr.frozen? ⟨b3, o, none⟩ = false) ∧ (∀ o, wr.frozen? ⟨bh, o, none⟩ = false)

theorem addr_block {b b' o o' : Nat} (h : b ≠ b') : (⟨b, o, none⟩ : Addr) ≠ ⟨b', o', none⟩ := fun e => h (congrArg Addr.block e)
theorem addr_off {b b' o o' : Nat} (h : o ≠ o') : (⟨b, o, none⟩ : Addr) ≠ ⟨b', o', none⟩ := fun e => h (congrArg Addr.off e)

theorem FamI.step {W2 wr w4 : World} {b3 bh k g' : Nat} (h : FamI W2 b3 bh k wr) (hne : b3 ≠ bh) (hk : k < 3) (h3 : b3 < wr.heap.size) (hbh : bh < wr.heap.size) (hb : Below wr.heap.size wr w4) (hg : wr.heap.size ≤ g') (hS : ∀ w3 : World, (∀ b, g' ≤ b → w3.heap[b]? = w4.heap[b]?) → NdsAt w3 (some ⟨g', 0, none⟩) (SK (k + 1))) :
    FamI W2 b3 bh (k + 1) (((w4.setCell ⟨b3, 0, none⟩ (.slice (some ⟨g', 0, none⟩) 6 6)).setCell ⟨bh, k * 2, none⟩ (.int .i64 k)).setCell ⟨bh, k * 2 + 1, none⟩ (.int .i64 1)) := by
  obtain ⟨hoff, ⟨g, c3, _⟩, hh, f3, fh⟩ := h
  have c34 := (hb.cell (p := ⟨b3, 0, none⟩) h3).trans c3
  refine ⟨?_, ⟨g', ?_, ?_⟩, fun i hi => ?_, fun o => ?_, fun o => ?_⟩
  · exact (((hoff.trans (Off.of_below hb)).trans (off_setCell _ (Or.inl rfl) _)).trans (off_setCell _ (Or.inr rfl) _)).trans (off_setCell _ (Or.inr rfl) _)
  · rw [World.cell?_setCell_other _ _ _ _ (addr_block (Ne.symm hne)), World.cell?_setCell_other _ _ _ _ (addr_block (Ne.symm hne))]
    exact World.cell?_setCell_same _ _ _ c34
  · refine hS _ (fun b hbg => ?_)
    rw [Below.heap_setCell _ _ _ _ (by show b ≠ bh; omega), Below.heap_setCell _ _ _ _ (by show b ≠ bh; omega), Below.heap_setCell _ _ _ _ (by show b ≠ b3; omega)]
  · obtain ⟨x0, x1⟩ := hh i hi
    have y0 := (hb.cell (p := ⟨bh, i * 2, none⟩) hbh).trans x0
    have y1 := (hb.cell (p := ⟨bh, i * 2 + 1, none⟩) hbh).trans x1
    have z0 : (w4.setCell ⟨b3, 0, none⟩ (.slice (some ⟨g', 0, none⟩) 6 6)).cell? ⟨bh, i * 2, none⟩ = _ := (World.cell?_setCell_other _ _ _ _ (addr_block hne)).trans y0
    have z1 : (w4.setCell ⟨b3, 0, none⟩ (.slice (some ⟨g', 0, none⟩) 6 6)).cell? ⟨bh, i * 2 + 1, none⟩ = _ := (World.cell?_setCell_other _ _ _ _ (addr_block hne)).trans y1
    by_cases e : i = k
    · subst e
      rw [if_pos (by omega), if_pos (by omega)]
      constructor
      · rw [World.cell?_setCell_other _ _ _ _ (by simp)]
        exact World.cell?_setCell_same _ _ _ z0
      · refine World.cell?_setCell_same _ _ _ (u := .int .i64 (if i < i then 1 else 0)) ?_
        rw [World.cell?_setCell_other _ _ _ _ (by simp)]
        exact z1
    · have e1 : (if i < k + 1 then (i : Int) else 0) = if i < k then (i : Int) else 0 := by
        by_cases h : i < k
        · rw [if_pos h, if_pos (by omega)]
        · rw [if_neg h, if_neg (by omega)]
      have e2 : (if i < k + 1 then (1 : Int) else 0) = if i < k then (1 : Int) else 0 := by
        by_cases h : i < k
        · rw [if_pos h, if_pos (by omega)]
        · rw [if_neg h, if_neg (by omega)]
      rw [e1, e2]
      constructor
      · rw [World.cell?_setCell_other _ _ _ _ (addr_off (by omega)), World.cell?_setCell_other _ _ _ _ (addr_off (by omega))]
        exact z0
      · rw [World.cell?_setCell_other _ _ _ _ (addr_off (by omega)), World.cell?_setCell_other _ _ _ _ (addr_off (by omega))]
        exact z1
  · rw [World.frozen?_setCell, World.frozen?_setCell, World.frozen?_setCell]
    exact (hb.frozen (p := ⟨b3, o, none⟩) h3).trans (f3 o)
  · rw [World.frozen?_setCell, World.frozen?_setCell, World.frozen?_setCell]
    exact (hb.frozen (p := ⟨bh, o, none⟩) hbh).trans (fh o)

theorem heap_drew (X : World) : X.drew.heap = X.heap := rfl

theorem heap7 (W : World) (s : Nat) (v0 v1 v2 v3 v4 v5 v6 : Value) (b : Nat) (h0 : b ≠ s) (h1 : b ≠ s + 1) :
    ((((((((W.setCell ⟨s, 0, none⟩ v0).setCell ⟨s + 1, 0, none⟩ v1).setCell ⟨s + 1, 1, none⟩ v2).setCell ⟨s + 1, 2, none⟩ v3).setCell ⟨s + 1, 3, none⟩ v4).setCell ⟨s + 1, 4, none⟩ v5).setCell ⟨s + 1, 5, none⟩ v6).drew).heap[b]? = W.heap[b]? := by
  rw [heap_drew]
  rw [Below.heap_setCell _ _ _ _ h1, Below.heap_setCell _ _ _ _ h1, Below.heap_setCell _ _ _ _ h1, Below.heap_setCell _ _ _ _ h1, Below.heap_setCell _ _ _ _ h1, Below.heap_setCell _ _ _ _ h1, Below.heap_setCell _ _ _ _ h0]

theorem fam_low {w w1 : World} (hb : Below (w.heap.size + 1 + 1) ((w.alloc (.cells #[.slice none 0 0] 24)).alloc (.cells #[.int .i64 0, .int .i64 0, .int .i64 0, .int .i64 0, .int .i64 0, .int .i64 0] 64)) w1) :
    w1.cell? ⟨w.heap.size, 0, none⟩ = some (.slice none 0 0) ∧ w1.cell? ⟨w.heap.size + 1, 0, none⟩ = some (.int .i64 0) ∧ w1.cell? ⟨w.heap.size + 1, 1, none⟩ = some (.int .i64 0) ∧ w1.cell? ⟨w.heap.size + 1, 2, none⟩ = some (.int .i64 0) ∧ w1.cell? ⟨w.heap.size + 1, 3, none⟩ = some (.int .i64 0) ∧ w1.cell? ⟨w.heap.size + 1, 4, none⟩ = some (.int .i64 0) ∧ w1.cell? ⟨w.heap.size + 1, 5, none⟩ = some (.int .i64 0) ∧ (∀ o, w1.frozen? ⟨w.heap.size, o, none⟩ = false) ∧ (∀ o, w1.frozen? ⟨w.heap.size + 1, o, none⟩ = false) := by
  refine ⟨?_, ?_, ?_, ?_, ?_, ?_, ?_, fun o => ?_, fun o => ?_⟩
  · exact (hb.cell (by first | (simp; done) | (simp; omega))).trans (by go_simp)
  · exact (hb.cell (by first | (simp; done) | (simp; omega))).trans (by go_simp)
  · exact (hb.cell (by first | (simp; done) | (simp; omega))).trans (by go_simp)
  · exact (hb.cell (by first | (simp; done) | (simp; omega))).trans (by go_simp)
  · exact (hb.cell (by first | (simp; done) | (simp; omega))).trans (by go_simp)
  · exact (hb.cell (by first | (simp; done) | (simp; omega))).trans (by go_simp)
  · exact (hb.cell (by first | (simp; done) | (simp; omega))).trans (by go_simp)
  · exact (hb.frozen (by first | (simp; done) | (simp; omega))).trans (by go_simp)
  · exact (hb.frozen (by first | (simp; done) | (simp; omega))).trans (by go_simp)

set_option maxHeartbeats 2000000 in
theorem family_any (w : World) :
    Calls Try.prog 41 #[] w fun e w' => ∃ g, e = .returned (.tuple #[.agg #[.slice (some ⟨g, 0, none⟩) 6 6], .agg #[.int .i64 0, .int .i64 1, .int .i64 1, .int .i64 1, .int .i64 2, .int .i64 1], .bool true]) ∧ Below w.heap.size w w' ∧ NdsAt w' (some ⟨g, 0, none⟩) S5 := by
  have dn := fun W => new_any 6 W (by omega)
  have DN : Hid _ := dn
  clear dn
  go_enter Try.func41, Try.ntmps41
  go_wp2_with (go_at_call 65; refine (DN.out _).mono ?_; rintro e w1 ⟨g0, rfl, hb1, hS1⟩; simp only [World.size_alloc] at hb1; have HS1 : Hid (NdsAt w1 (some ⟨g0, 0, none⟩) (List.replicate 6 unusedNd)) := hS1; clear hS1)
  obtain ⟨W2, hW2⟩ : ∃ W2, W2 = (w1.alloc (.cells #[.slice (some ⟨g0, 0, none⟩) 6 6] 24)).alloc (.cells #[.int .i64 0, .int .i64 0, .int .i64 0, .int .i64 0, .int .i64 0, .int .i64 0] 64) := ⟨_, rfl⟩
  rw [← hW2]
  have hsz2 : W2.heap.size = w1.heap.size + 1 + 1 := by rw [hW2]; simp
  have F0 : Hid (FamI W2 w1.heap.size (w1.heap.size + 1) 0 W2) := by
    have hbel : Below w1.heap.size w1 W2 := by rw [hW2]; exact two_below _ _ _
    refine ⟨Off.refl _ _, ⟨g0, by rw [hW2]; go_simp, HS1.out.below hbel⟩, fun i hi => ?_, fun o => by rw [hW2]; go_simp, fun o => by rw [hW2]; go_simp⟩
    match i, hi with
    | 0, _ => exact ⟨by rw [hW2]; go_simp, by rw [hW2]; go_simp⟩
    | 1, _ => exact ⟨by rw [hW2]; go_simp, by rw [hW2]; go_simp⟩
    | 2, _ => exact ⟨by rw [hW2]; go_simp, by rw [hW2]; go_simp⟩
  have HW2 : Hid _ := hW2
  clear hW2
  go_loopg [5, 14] 3 (fun g1 s5 s14 wr => ∃ k : Nat, k ≤ 3 ∧ 3 - k ≤ g1 ∧ s14 = .int .i64 k ∧ s5 = .bool true ∧ Hid (FamI W2 w1.heap.size (w1.heap.size + 1) k wr))
  case atStart => exact ⟨0, by omega, by omega, rfl, rfl, F0⟩
  case round =>
    clear F0 HS1
    obtain ⟨k, hk, hg1, rfl, rfl, FI⟩ := hrel
    obtain ⟨hoff, ⟨g, c3, hS⟩, hh, f3, fh⟩ := FI.out
    have hswr := hoff.size
    by_cases hlt : k < 3
    · have hlt2 : (k : Int) < 3 := by omega
      obtain ⟨q1, q2, q3, q4, q5⟩ := sk_facts k hlt
      have dm := make_ok (some ⟨g, 0, none⟩) 6 (SK k) k wr (by rw [sk_len]; omega) (by rw [sk_len]; exact q4) hS q5 (by omega) (by omega) k (by rw [sk_len]; omega) q1 (by rw [q2]; omega) q3
      rw [sk_len, q2] at dm
      obtain ⟨x0, x1⟩ := hh k hlt
      rw [if_neg (by omega)] at x0 x1
      have SKS : Hid ((SK k).set k (madeNd (nd (SK k) k) k) = SK (k + 1)) := rfl
      clear hS hh q1 q2 q3 q4 q5 hoff
      go_wp2_with (go_at_call 54; refine dm.mono ?_; rintro e w4 ⟨g', rfl, hb4, hg4, hS4⟩; have c34 := (hb4.cell (World.block_lt_of_cell? _ _ c3)).trans c3; have x04 := (hb4.cell (World.block_lt_of_cell? _ _ x0)).trans x0; have x14 := (hb4.cell (World.block_lt_of_cell? _ _ x1)).trans x1; have f34 := fun o => (hb4.frozen (p := ⟨w1.heap.size, o, none⟩) (World.block_lt_of_cell? wr ⟨w1.heap.size, 0, none⟩ c3)).trans (f3 o); have fh4 := fun o => (hb4.frozen (p := ⟨w1.heap.size + 1, o, none⟩) (World.block_lt_of_cell? wr ⟨w1.heap.size + 1, k * 2, none⟩ x0)).trans (fh o); have HS4 : Hid _ := hS4; clear hS4)
      go_roundg (3 - (k + 1))
      case measure => omega
      case rel =>
        refine ⟨k + 1, by omega, by omega, by go_num, rfl, ?_⟩
        have := FamI.step FI.out (by omega) hlt (World.block_lt_of_cell? _ _ c3) (World.block_lt_of_cell? _ _ x0) hb4 hg4 (by rw [← SKS.out]; exact HS4.out)
        exact this
    · have hk3 : k = 3 := by omega
      subst hk3
      have a0 : wr.cell? ⟨w1.heap.size + 1, 0, none⟩ = some (.int .i64 0) := by simpa using (hh 0 (by omega)).1
      have a1 : wr.cell? ⟨w1.heap.size + 1, 1, none⟩ = some (.int .i64 1) := by simpa using (hh 0 (by omega)).2
      have a2 : wr.cell? ⟨w1.heap.size + 1, 2, none⟩ = some (.int .i64 1) := by simpa using (hh 1 (by omega)).1
      have a3 : wr.cell? ⟨w1.heap.size + 1, 3, none⟩ = some (.int .i64 1) := by simpa using (hh 1 (by omega)).2
      have a4 : wr.cell? ⟨w1.heap.size + 1, 4, none⟩ = some (.int .i64 2) := by simpa using (hh 2 (by omega)).1
      have a5 : wr.cell? ⟨w1.heap.size + 1, 5, none⟩ = some (.int .i64 1) := by simpa using (hh 2 (by omega)).2
      have hs1 := hb1.size
      simp only [World.size_alloc] at hs1
      have HBW : Hid (Below (w.heap.size + 1 + 1) ((w.alloc (.cells #[.slice none 0 0] 24)).alloc (.cells #[.int .i64 0, .int .i64 0, .int .i64 0, .int .i64 0, .int .i64 0, .int .i64 0] 64)) wr) := by
        have h2 : Below (w.heap.size + 1 + 1) w1 W2 := by rw [HW2.out]; exact ((Below.refl _ _).alloc (by omega) _).alloc (by simp; omega) _
        exact (hb1.trans h2).trans (hoff.below (by omega) (fun b hb => by omega))
      have d6 : Calls Try.prog 42 #[.agg #[.slice (some ⟨g, 0, none⟩) 6 6], .agg #[.int .i64 0, .int .i64 1], .agg #[.int .i64 1, .int .i64 1], .slice none 0 0] wr fun e w' => ∃ g, e = .returned (.tuple #[.agg #[.slice (some ⟨g, 0, none⟩) 6 6], .int .i64 0]) ∧ Below wr.heap.size wr w' ∧ wr.heap.size ≤ g ∧ ∀ w3 : World, (∀ b, g ≤ b → w3.heap[b]? = w'.heap[b]?) → NdsAt w3 (some ⟨g, 0, none⟩) S4 :=
        insert_nil_ok (some ⟨g, 0, none⟩) 6 (SK 3) 0 1 1 1 wr (by decide) (fun i hi => Nat.le_trans (sk3_ks i hi) (by omega)) hS sk3_check (by decide) (by decide) (by decide) s3_fit s3_p sk3_ks
      clear hS hh hoff
      go_wp2_with (go_at_call 42; refine d6.mono ?_; rintro e w5 ⟨g5, rfl, hb5, hg5, hS5⟩; have c35 := (hb5.cell (World.block_lt_of_cell? _ _ c3)).trans c3; have f35 := fun o => (hb5.frozen (p := ⟨w1.heap.size, o, none⟩) (World.block_lt_of_cell? wr ⟨w1.heap.size, 0, none⟩ c3)).trans (f3 o); have HS5 : Hid _ := hS5; clear hS5)
      obtain ⟨W6, hW6⟩ : ∃ W6, W6 = w5.setCell ⟨w1.heap.size, 0, none⟩ (.slice (some ⟨g5, 0, none⟩) 6 6) := ⟨_, rfl⟩
      rw [← hW6]
      have hbh : w1.heap.size + 1 < wr.heap.size := World.block_lt_of_cell? _ _ a0
      have hs5 := hb5.size
      have u3 : W6.cell? ⟨w1.heap.size, 0, none⟩ = some (.slice (some ⟨g5, 0, none⟩) 6 6) := by rw [hW6]; exact World.cell?_setCell_same _ _ _ c35
      have ha : ∀ o v, wr.cell? ⟨w1.heap.size + 1, o, none⟩ = some v → W6.cell? ⟨w1.heap.size + 1, o, none⟩ = some v := fun o v h => by
        rw [hW6, World.cell?_setCell_other _ _ _ _ (addr_block (by omega))]
        exact (hb5.cell hbh).trans h
      have u0 := ha _ _ a0
      have u1 := ha _ _ a1
      have u2 := ha _ _ a2
      have u4 := ha _ _ a3
      have u5 := ha _ _ a4
      have u6 := ha _ _ a5
      have uf : ∀ o, W6.frozen? ⟨w1.heap.size, o, none⟩ = false := fun o => by rw [hW6, World.frozen?_setCell]; exact f35 o
      have hs6 : W6.heap.size = w5.heap.size := by rw [hW6]; simp
      have HB6 : Hid (Below (w.heap.size + 1 + 1) ((w.alloc (.cells #[.slice none 0 0] 24)).alloc (.cells #[.int .i64 0, .int .i64 0, .int .i64 0, .int .i64 0, .int .i64 0, .int .i64 0] 64)) W6) := by
        rw [hW6]
        exact (HBW.out.trans (hb5.mono (by omega))).setCell (by show _ ≤ w1.heap.size; omega) _
      have hN6 : NdsAt W6 (some ⟨g5, 0, none⟩) S4 := HS5.out _ (fun b hb => by rw [hW6]; exact Below.heap_setCell _ _ _ _ (by show b ≠ w1.heap.size; omega))
      have hH6 : HandsAt W6 (some ⟨w1.heap.size + 1, 2, none⟩) [(((1 : Nat) : Int), 1)] := fun i hi => by
        have : i = 0 := by simpa using hi
        subst this
        exact ⟨_, _, rfl, by simpa using u2, by simpa using u4⟩
      have d7 : Calls Try.prog 42 #[.agg #[.slice (some ⟨g5, 0, none⟩) 6 6], .agg #[.int .i64 0, .int .i64 1], .agg #[.int .i64 2, .int .i64 1], .slice (some ⟨w1.heap.size + 1, 2, none⟩) 1 2] W6.drew fun e w' => ∃ g, e = .returned (.tuple #[.agg #[.slice (some ⟨g, 0, none⟩) 6 6], .int .i64 0]) ∧ Below W6.heap.size W6.drew w' ∧ W6.heap.size ≤ g ∧ ∀ w3 : World, (∀ b, g ≤ b → w3.heap[b]? = w'.heap[b]?) → NdsAt w3 (some ⟨g, 0, none⟩) S5 :=
        insert_one_ok (some ⟨g5, 0, none⟩) 6 S4 0 2 0 1 1 (w1.heap.size + 1) 2 2 1 1 W6.drew (by decide) (fun i hi => Nat.le_trans (s4_ks i hi) (by omega)) (hN6.below (Below.refl _ _).drew) (hH6.below (Below.refl _ _).drew) s4_check (by decide) (by decide) (by decide) (by decide) s4_fit s4_p s4_q (by decide) s4_at (by decide) s4_ks
      clear hW6 c35 f35 ha a0 a1 a2 a3 a4 a5 hN6 hH6 c3 f3 fh d6
      refine wp_region_noPanic ?_
      refine wp_region_held_drew (S := (fun w'' => w''.cell? ⟨w1.heap.size + 1, 0, none⟩ = some (.int .i64 0) ∧ w''.cell? ⟨w1.heap.size + 1, 1, none⟩ = some (.int .i64 1) ∧ w''.cell? ⟨w1.heap.size + 1, 4, none⟩ = some (.int .i64 2) ∧ w''.cell? ⟨w1.heap.size + 1, 5, none⟩ = some (.int .i64 1))) (by kernel_rfl) (by (try dsimp only); go_keep) (fun hHeld => ?_)
      refine wpAnyH_take (i := 1) (v := ?_) rfl (by kernel_rfl) (by kernel_rfl) (by kernel_rfl) (fun _ _ _ h => h) (Or.inl ⟨by rfl, ?_⟩) (by assumption) ?_
      rotate_left
      · intro w hSw; (try dsimp only at hSw); first | (go_simp; done) | (go_simp; with_reducible rfl)
      try simp [Act.put]
      refine wpAnyH_take (i := 2) (v := ?_) rfl (by kernel_rfl) (by kernel_rfl) (by kernel_rfl) (fun _ _ _ h => h) (Or.inl ⟨by rfl, ?_⟩) (by assumption) ?_
      rotate_left
      · intro w hSw; (try dsimp only at hSw); first | (go_simp; done) | (go_simp; with_reducible rfl)
      try simp [Act.put]
      refine wpAnyH_take (i := 3) (v := ?_) rfl (by kernel_rfl) (by kernel_rfl) (by kernel_rfl) (fun _ _ _ h => h) (Or.inl ⟨by rfl, ?_⟩) (by assumption) ?_
      rotate_left
      · intro w hSw; (try dsimp only at hSw); first | (go_simp; done) | (go_simp; with_reducible rfl)
      try simp [Act.put]
      refine wpAnyH_take (i := 4) (v := ?_) rfl (by kernel_rfl) (by kernel_rfl) (by kernel_rfl) (fun _ _ _ h => h) (Or.inl ⟨by rfl, ?_⟩) (by assumption) ?_
      rotate_left
      · intro w hSw; (try dsimp only at hSw); first | (go_simp; done) | (go_simp; with_reducible rfl)
      try simp [Act.put]
      refine wpAnyH_take (i := 5) (v := ?_) rfl (by kernel_rfl) (by kernel_rfl) (by kernel_rfl) (fun _ _ _ h => h) (Or.inl ⟨by rfl, ?_⟩) (by assumption) ?_
      rotate_left
      · intro w hSw; (try dsimp only at hSw); first | (go_simp; done) | (go_simp; with_reducible rfl)
      try simp [Act.put]
      refine wpAnyH_ready (rs := [0]) (by kernel_rfl) (by simp) ?_
      refine AllReadyH.cons rfl (fun K hK => ?_) AllReadyH.nil
      go_simp
      refine hK.out _ _ ?_ (fun hHeld => ?_)
      · (try dsimp only)
        go_keep
      clear hK K
      try simp [Act.put]
      refine wpAnyH_ready (rs := [6]) (by kernel_rfl) (by simp) ?_
      refine AllReadyH.cons rfl (fun K hK => ?_) AllReadyH.nil
      go_simp
      refine d7.mono ?_
      rintro e w7 ⟨g7, rfl, hb7, hg7, hS7⟩
      have hb77 : Below W6.heap.size W6 w7 := ((Below.refl _ _).drew).trans hb7
      have v3 := (hb77.cell (World.block_lt_of_cell? _ _ u3)).trans u3
      have v0 := (hb77.cell (World.block_lt_of_cell? _ _ u0)).trans u0
      have v1 := (hb77.cell (World.block_lt_of_cell? _ _ u1)).trans u1
      have v2 := (hb77.cell (World.block_lt_of_cell? _ _ u2)).trans u2
      have v4 := (hb77.cell (World.block_lt_of_cell? _ _ u4)).trans u4
      have v5 := (hb77.cell (World.block_lt_of_cell? _ _ u5)).trans u5
      have v6 := (hb77.cell (World.block_lt_of_cell? _ _ u6)).trans u6
      have vf := fun o => (hb77.frozen (p := ⟨w1.heap.size, o, none⟩) (World.block_lt_of_cell? W6 ⟨w1.heap.size, 0, none⟩ u3)).trans (uf o)
      have HS7 : Hid _ := hS7
      clear hS7 hb7
      go_wp2_with fail
      refine hK.out _ _ ?_ (fun hHeld => ?_)
      · (try dsimp only)
        go_keep
      clear hK K
      try simp [Act.put]
      refine wpAnyH_take (i := 7) (v := ?_) rfl (by kernel_rfl) (by kernel_rfl) (by kernel_rfl) (fun _ _ _ h => h) (Or.inl ⟨by rfl, ?_⟩) (by assumption) ?_
      rotate_left
      · intro w hSw; (try dsimp only at hSw); first | (go_simp; done) | (go_simp; with_reducible rfl)
      try simp [Act.put]
      refine wpAnyH_take (i := 8) (v := ?_) rfl (by kernel_rfl) (by kernel_rfl) (by kernel_rfl) (fun _ _ _ h => h) (Or.inl ⟨by rfl, ?_⟩) (by assumption) ?_
      rotate_left
      · intro w hSw; (try dsimp only at hSw); first | (go_simp; done) | (go_simp; with_reducible rfl)
      try simp [Act.put]
      refine wpAnyH_take (i := 9) (v := ?_) rfl (by kernel_rfl) (by kernel_rfl) (by kernel_rfl) (fun _ _ _ h => h) (Or.inl ⟨by rfl, ?_⟩) (by assumption) ?_
      rotate_left
      · intro w hSw; (try dsimp only at hSw); first | (go_simp; done) | (go_simp; with_reducible rfl)
      try simp [Act.put]
      refine wpAnyH_ready (rs := [10]) (by kernel_rfl) (by simp) ?_
      refine AllReadyH.cons rfl (fun K hK => ?_) AllReadyH.nil
      go_simp
      refine hK.out _ _ ?_ (fun hHeld => ?_)
      · (try dsimp only)
        go_keep
      clear hK K
      try simp [Act.put]
      refine wpAnyH_take (i := 11) (v := ?_) rfl (by kernel_rfl) (by kernel_rfl) (by kernel_rfl) (fun _ _ _ h => h) (Or.inl ⟨by rfl, ?_⟩) (by assumption) ?_
      rotate_left
      · intro w hSw; (try dsimp only at hSw); first | (go_simp; done) | (go_simp; with_reducible rfl)
      try simp [Act.put]
      refine wpAnyH_done (by kernel_rfl) ?_ _
      refine NoPanic.normal ?_
      all_goals
        have HB7 : Below (w.heap.size + 1 + 1) ((w.alloc (.cells #[.slice none 0 0] 24)).alloc (.cells #[.int .i64 0, .int .i64 0, .int .i64 0, .int .i64 0, .int .i64 0, .int .i64 0] 64)) w7 := HB6.out.trans (hb77.mono (by omega))
        have hs7 := hb77.size
        go_wp2_with fail
        obtain ⟨W8, hW8⟩ : ∃ W8, W8 = w7.setCell ⟨w1.heap.size, 0, none⟩ (.slice (some ⟨g7, 0, none⟩) 6 6) := ⟨_, rfl⟩
        rw [← hW8]
        have y3 : W8.cell? ⟨w1.heap.size, 0, none⟩ = some (.slice (some ⟨g7, 0, none⟩) 6 6) := by rw [hW8]; exact World.cell?_setCell_same _ _ _ v3
        have hy : ∀ o v, w7.cell? ⟨w1.heap.size + 1, o, none⟩ = some v → W8.cell? ⟨w1.heap.size + 1, o, none⟩ = some v := fun o v h => by
          rw [hW8, World.cell?_setCell_other _ _ _ _ (addr_block (by omega))]; exact h
        have y0 := hy _ _ v0
        have y1 := hy _ _ v1
        have y2 := hy _ _ v2
        have y4 := hy _ _ v4
        have y5 := hy _ _ v5
        have y6 := hy _ _ v6
        have HB8 : Below (w.heap.size + 1 + 1) ((w.alloc (.cells #[.slice none 0 0] 24)).alloc (.cells #[.int .i64 0, .int .i64 0, .int .i64 0, .int .i64 0, .int .i64 0, .int .i64 0] 64)) W8 := by
          rw [hW8]; exact HB7.setCell (by show _ ≤ w1.heap.size; omega) _
        obtain ⟨r0, t0, t1, t2, t3, t4, t5, rf, tf⟩ := fam_low HB8
        have hs8 : W8.heap.size = w7.heap.size := by rw [hW8]; simp
        have HBX : Hid (Below w.heap.size w W8) := (two_below _ _ _).trans (HB8.mono (by omega))
        have NX : Hid (∀ w3 : World, (∀ b, g7 ≤ b → w3.heap[b]? = W8.heap[b]?) → NdsAt w3 (some ⟨g7, 0, none⟩) S5) := fun w3 hup => HS7.out _ (fun b hb => (hup b hb).trans (by rw [hW8]; exact Below.heap_setCell _ _ _ _ (by show b ≠ w1.heap.size; omega)))
        have n1 : ¬ w.heap.size = w1.heap.size := by omega
        have n2 : ¬ w.heap.size = w1.heap.size + 1 := by omega
        have n3 : ¬ w.heap.size + 1 = w1.heap.size := by omega
        clear hW8 hy v3 v0 v1 v2 v4 v5 v6 vf HB7 HB8 u3 u0 u1 u2 u4 u5 u6 uf d7
        go_region_held3 (fun w'' => w''.cell? ⟨w1.heap.size, 0, none⟩ = some (.slice (some ⟨g7, 0, none⟩) 6 6) ∧ w''.cell? ⟨w1.heap.size + 1, 0, none⟩ = some (.int .i64 0) ∧ w''.cell? ⟨w1.heap.size + 1, 1, none⟩ = some (.int .i64 1) ∧ w''.cell? ⟨w1.heap.size + 1, 2, none⟩ = some (.int .i64 1) ∧ w''.cell? ⟨w1.heap.size + 1, 3, none⟩ = some (.int .i64 1) ∧ w''.cell? ⟨w1.heap.size + 1, 4, none⟩ = some (.int .i64 2) ∧ w''.cell? ⟨w1.heap.size + 1, 5, none⟩ = some (.int .i64 1)) (go_keep) (fail)
      all_goals
        go_wp2
        refine bodyPost_ret (v := .tuple #[.agg #[.slice (some ⟨g7, 0, none⟩) 6 6], .agg #[.int .i64 0, .int .i64 1, .int .i64 1, .int .i64 1, .int .i64 2, .int .i64 1], .bool true]) (by simp [results, Try.results41, go_sem, r0, t0, t1, t2, t3, t4, t5]) rfl ⟨g7, rfl, ?_, ?_⟩
        · exact (((((((HBX.out.setCell (by simp) _).setCell (by simp) _).setCell (by simp) _).setCell (by simp) _).setCell (by simp) _).setCell (by simp) _).setCell (by simp) _).drew
        · refine NX.out _ (fun b hb => ?_)
          exact heap7 W8 w.heap.size _ _ _ _ _ _ _ b (by omega) (by omega)
end Go.Proofs.Ytjlapfgghljidab
