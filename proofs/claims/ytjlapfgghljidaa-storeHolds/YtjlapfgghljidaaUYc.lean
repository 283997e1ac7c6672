/-
  StoreHolds: the walk behind a node that is made.
-/
import Derived.Test.YtjlapfgghljidaaUYaYb
import Derived.Deep.RegionHeld3
namespace Go.Proofs.Ytjlapfgghljidaa
open Go.RowKit

theorem free_no {S : List Nd} (wf : WF S) {p : Nat} (hp : p < S.length) : (∃ E, E ≠ 0 ∧ ∀ (a : Option Addr) (c : Nat) (W : World), NdsAt W a S → Calls Try.prog 13 #[.agg #[.slice a S.length c], .agg #[.int .i64 p, .int .i64 (nd S p).n]] W fun e w' => e = .returned (.tuple #[.agg #[.slice none 0 0], .int .i64 E]) ∧ Below W.heap.size W w') ∨ (findE S p (nd S p).n = 0 ∧ looseB S p) := by
  by_cases h1 : findE S p (nd S p).n = 0
  · by_cases h2 : looseB S p
    · exact Or.inr ⟨h1, h2⟩
    · exact Or.inl ⟨6, by omega, fun a c W hW => free_tree a c S p _ W (by have := wf.small; omega) wf.big hW hp h1 (by have := wf.kids_small hp; omega) h2⟩
  · exact Or.inl ⟨_, h1, fun a c W hW => free_err a c S p _ _ W (by have := wf.small; omega) wf.big hW rfl h1⟩

theorem make_no {S : List Nd} (wf : WF S) {t : Int} (ht0 : 0 ≤ t) (ht1 : t ≤ 99) : (∃ E, E ≠ 0 ∧ ∀ (a : Option Addr) (c : Nat) (W : World), NdsAt W a S → Calls Try.prog 11 #[.agg #[.slice a S.length c], .int .i64 t] W fun e w' => e = .returned (.tuple #[.agg #[.slice none 0 0], .agg #[.int .i64 0, .int .i64 0], .int .i64 E]) ∧ Below W.heap.size W w') ∨
    (∃ k, k < S.length ∧ freeB (nd S k) = true ∧ ∀ (a : Option Addr) (c : Nat) (W : World), NdsAt W a S → Calls Try.prog 11 #[.agg #[.slice a S.length c], .int .i64 t] W fun e w' => ∃ g, e = .returned (.tuple #[.agg #[.slice (some ⟨g, 0, none⟩) S.length S.length], .agg #[.int .i64 k, .int .i64 ((nd S k).n + 1)], .int .i64 0]) ∧ Below W.heap.size W w' ∧ W.heap.size ≤ g ∧ ∀ w3 : World, (∀ b, g ≤ b → w3.heap[b]? = w'.heap[b]?) → NdsAt w3 (some ⟨g, 0, none⟩) (S.set k (madeNd (nd S k) t))) := by
  by_cases h1 : makeE S t = 0
  · have hc := (wf_iff S).2 wf
    have hf : S.any freeB = true := by
      unfold makeE at h1
      rw [if_pos hc, if_pos ⟨ht0, ht1⟩] at h1
      cases hq : S.any freeB with
      | true => rfl
      | false => rw [hq, if_neg (by simp)] at h1; omega
    obtain ⟨k, hk, hk1, hk2⟩ := first_free hf
    exact Or.inr ⟨k, hk, hk1, fun a c W hW => make_ok a c S t W wf.small (fun i hi => by have := wf.kids_small hi; omega) hW hc ht0 ht1 k hk hk1 (wf.uses hk).1 hk2⟩
  · exact Or.inl ⟨_, h1, fun a c W hW => make_err a c S t _ W (by have := wf.small; omega) wf.big hW rfl h1⟩

/-- The loop's state: the store so far, the hand. -/
def HoldI (w w1 : World) (b0 bh n hp : Nat) (hu tag : Int) (gone : Bool) (g : Nat) (S : List Nd) (wr : World) : Prop :=
  Below w.heap.size w wr ∧ wr.cell? ⟨b0, 0, none⟩ = some (.slice (some ⟨g, 0, none⟩) n n) ∧ (∀ o, wr.frozen? ⟨b0, o, none⟩ = false) ∧ wr.cell? ⟨bh, 0, none⟩ = some (.int .i64 hp) ∧ wr.cell? ⟨bh, 1, none⟩ = some (.int .i64 hu) ∧ NdsAt wr (some ⟨g, 0, none⟩) S ∧ S.length = n ∧ WF S ∧ HeldS S hp hu tag gone ∧ w1.heap.size ≤ wr.heap.size

theorem HoldI.below {w w1 : World} {b0 bh n hp : Nat} {hu tag : Int} {gone : Bool} {g : Nat} {S : List Nd} {X F : World} (h : HoldI w w1 b0 bh n hp hu tag gone g S X) (hb : Below X.heap.size X F) : HoldI w w1 b0 bh n hp hu tag gone g S F := by
  obtain ⟨i1, i2, i3, i4, i5, i6, i7, i8, i9, i10⟩ := h
  have l0 := World.block_lt_of_cell? _ _ i2
  have l1 := World.block_lt_of_cell? _ _ i4
  exact ⟨i1.trans (hb.mono i1.size), (hb.cell l0).trans i2, fun o => (hb.frozen (p := ⟨b0, o, none⟩) l0).trans (i3 o), (hb.cell (p := ⟨bh, 0, none⟩) l1).trans i4, (hb.cell (p := ⟨bh, 1, none⟩) l1).trans i5, i6.below hb, i7, i8, i9, Nat.le_trans i10 hb.size⟩

theorem at_fix (y : Int) (n : Nat) (hn : 0 < n) (hn' : n ≤ 100) : ∃ p : Nat, p < n ∧ ∀ W, Calls Try.prog 24 #[.int .i64 y, .int .i64 n] W fun e w' => e = .returned (.int .i64 (p : Int)) ∧ w' = W := by
  obtain ⟨hb1, hb2⟩ := Room.tmod_bd y n hn
  generalize hr : y.tmod (n : Int) = r at hb1 hb2
  by_cases h : r < 0
  · obtain ⟨p, hp⟩ : ∃ p : Nat, (p : Int) = r + n := ⟨(r + n).toNat, by omega⟩
    refine ⟨p, by omega, fun w => ?_⟩
    have HP : Hid ((p : Int) = r + n) := hp
    clear hp
    go_enter Try.func24, Try.ntmps24
    go_wp2
    go_ret
    exact ⟨by rw [HP.out]; rfl, rfl⟩
  · obtain ⟨p, hp⟩ : ∃ p : Nat, (p : Int) = r := ⟨r.toNat, by omega⟩
    refine ⟨p, by omega, fun w => ?_⟩
    have HP : Hid ((p : Int) = r) := hp
    clear hp
    go_enter Try.func24, Try.ntmps24
    go_wp2
    go_ret
    exact ⟨by rw [HP.out]; rfl, rfl⟩

set_option maxRecDepth 100000 in
set_option maxHeartbeats 16000000 in
theorem holds_ok (a : Option Addr) (c : Nat) (S : List Nd) (tag : Int) (xa : Option Addr) (len cap : Nat) (z : List Int) (w : World) (hlen : z.length = len) (hlc : len ≤ cap) (hcm : cap ≤ 9223372036854775807) (hZ : IntsAt w xa z) (hS : NdsAt w a S) (wf : WF S) (ht0 : 0 ≤ tag) (ht1 : tag ≤ 99)
    (k : Nat) (hk : k < S.length) (hfr : freeB (nd S k) = true) (hall : ∀ i, i < k → freeB (nd S i) = false) :
    Calls Try.prog 4 #[.agg #[.slice a S.length c], .int .i64 tag, .slice xa len cap] w fun e w' => e = .returned (.bool true) ∧ Below w.heap.size w w' := by
  have D1 : Hid (∀ W, NdsAt W a S → Calls _ _ _ _ _) := fun W hW => make_ok a c S tag W wf.small (fun i hi => by have := wf.kids_small hi; omega) hW ((wf_iff _).2 wf) ht0 ht1 k hk hfr (wf.uses hk).1 hall
  have HS : Hid (NdsAt w a S) := hS
  have HZ : Hid (IntsAt w xa z) := hZ
  have HLEN : Hid (z.length = len) := hlen
  have HW1 : Hid (WF (S.set k (madeNd (nd S k) tag))) := wf.make hk hfr ht0 ht1
  have HH1 : Hid (HeldS (S.set k (madeNd (nd S k) tag)) k ((nd S k).n + 1) tag false) := held_made wf hk tag
  have hn24 : S.length ≤ 24 := wf.small
  have hn0 : 0 < S.length := by omega
  clear hS hZ hfr hall wf hlen ht0 ht1
  obtain ⟨hu, hhu⟩ : ∃ hu, (nd S k).n + 1 = hu := ⟨_, rfl⟩
  rw [hhu] at D1 HH1
  obtain ⟨S1, hS1⟩ : ∃ S1, S.set k (madeNd (nd S k) tag) = S1 := ⟨_, rfl⟩
  rw [hS1] at D1 HH1 HW1
  have HL1 : Hid (S1.length = S.length) := (by rw [← hS1, List.length_set] : S1.length = S.length)
  clear hhu hS1
  generalize hn : S.length = n at *
  clear hn
  go_enter Try.func4, Try.ntmps4
  go_wp2_with fail
  refine (D1.out _ (HS.out.below ((Below.refl _ _).alloc (Nat.le_refl _) _))).mono ?_
  rintro e w1 ⟨g, rfl, hb1, hg1, hup1⟩
  simp only [World.size_alloc] at hb1 hg1
  have hs1 := hb1.size
  simp only [World.size_alloc] at hs1
  have c1 : w1.cell? ⟨w.heap.size, 0, none⟩ = some (.slice a n c) := (hb1.cell (by simp)).trans (by go_simp)
  have f1 : ∀ o, w1.frozen? ⟨w.heap.size, o, none⟩ = false := fun o => (hb1.frozen (by simp)).trans (by go_simp)
  have l1 : w.heap.size < w1.heap.size := by omega
  have HB1 : Hid (Below w.heap.size w w1) := ((Below.refl _ _).alloc (Nat.le_refl _) _).trans (hb1.mono (by omega))
  have NS1 : Hid (NdsAt (w1.setCell ⟨w.heap.size, 0, none⟩ (.slice (some ⟨g, 0, none⟩) n n)) (some ⟨g, 0, none⟩) S1) := hup1 _ (fun b hb => Below.heap_setCell _ _ _ _ (by show b ≠ w.heap.size; omega))
  clear hb1 hup1 D1 HS
  go_wp2_with fail
  refine (Room.stored_any _).mono ?_
  rintro e w2 ⟨rfl, hb2⟩
  have HI : Hid (HoldI w w1 w.heap.size w1.heap.size n k hu tag false g S1 w2) := by
    simp only [World.size_alloc, World.size_setCell] at hb2
    have hs2 := hb2.size
    simp only [World.size_alloc, World.size_setCell] at hs2
    refine ⟨?_, (hb2.cell (by simp; omega)).trans ?_, fun o => (hb2.frozen (by simp; omega)).trans ?_, (hb2.cell (by simp)).trans ?_, (hb2.cell (by simp)).trans ?_, ?_, HL1.out, HW1.out, HH1.out, by omega⟩
    · refine Below.trans ?_ (hb2.mono (by omega))
      first
        | exact (HB1.out.setCell (by simp) _).alloc (by simp; omega) _
        | exact (HB1.out.alloc (by omega) _).setCell (by simp) _
    · go_simp
    · go_simp
    · go_simp
    · go_simp
    · have hX := NS1.out.below ((Below.refl _ _).alloc (Nat.le_refl _) (.cells #[.int .i64 k, .int .i64 hu] 26))
      exact NdsAt.below hX (by simp only [World.size_alloc, World.size_setCell]; exact hb2)
  clear hb2 c1 f1 NS1 HW1 HH1 HL1
  go_wp2_with fail
  obtain ⟨M, hM, hM1, hM2⟩ : ∃ M : Nat, min (len : Int) 60 = (M : Int) ∧ M ≤ len ∧ M ≤ 60 := ⟨min len 60, by omega, by omega, by omega⟩
  rw [hM, show max (M : Int) 0 = (M : Int) from by omega, Int.toNat_natCast]
  have hn60 : (n : Int) ≤ 24 := by omega
  go_loopg [9, 38] M (fun gk s9 s38 wr => ∃ (j : Nat) (gone : Bool) (g : Nat) (S : List Nd), j ≤ M ∧ M - j ≤ gk ∧ s38 = .int .i64 j ∧ s9 = .bool gone ∧ Hid (HoldI w w1 w.heap.size w1.heap.size n k hu tag gone g S wr))
  case atStart => exact ⟨0, false, g, S1, by omega, by omega, rfl, rfl, HI⟩
  case round =>
    clear HI
    obtain ⟨j, gone, g2, S2, hj, hgk, rfl, rfl, HI⟩ := hrel
    obtain ⟨i1, i2, i3, i4, i5, i6, i7, i8, i9, i10⟩ := HI.out
    clear HI
    by_cases hjl : j < M
    · obtain ⟨xb, xo, rfl, hxc⟩ := (HZ.out.below i1) j (by rw [HLEN.out]; omega)
      generalize hy : z.getD j 0 = y at hxc
      clear hy
      have hjl2 : (j : Int) < (M : Int) := by omega
      have q1 := World.block_lt_of_cell? _ _ i2
      have q2 := World.block_lt_of_cell? _ _ i4
      have q3 := Room.nds_lt i6 (k := k) (by omega)
      have HB : Hid (Below w.heap.size w wr) := i1
      have HS2 : Hid (NdsAt wr (some ⟨g2, 0, none⟩) S2) := i6
      have HL : Hid (S2.length = n) := i7
      have HW2 : Hid (WF S2) := i8
      have HH2 : Hid (HeldS S2 k hu tag gone) := i9
      clear i1 i6 i7 i8 i9
      by_cases h3 : y.tmod 3 = 0
      · obtain ⟨p, hp, hat⟩ : ∃ p : Nat, p < n ∧ ∀ W, Calls Try.prog 24 #[.int .i64 y, .int .i64 n] W fun e w' => e = .returned (.int .i64 (p : Int)) ∧ w' = W := at_fix y n (by omega) (by omega)
        have hpn : (p : Int) < (n : Int) := by omega
        obtain ⟨fb, fo, fe, fc0, fc1, _⟩ := HS2.out p (by rw [HL.out]; exact hp)
        cases fe
        rw [Nat.zero_add] at fc1
        clear fc0
        have FN : Hid _ := free_no HW2.out (p := p) (by rw [HL.out]; exact hp)
        obtain ⟨u, hu2⟩ : ∃ u, (nd S2 p).n = u := ⟨_, rfl⟩
        have HU2 : Hid ((nd S2 p).n = u) := hu2
        rw [hu2] at fc1
        clear hu2
        rcases FN.out with ⟨E, hE, dE⟩ | ⟨hE, hL⟩
        · have DE : Hid (∀ W, NdsAt W (some ⟨g2, 0, none⟩) S2 → Calls _ _ _ _ _) := fun W hW => dE (some ⟨g2, 0, none⟩) n W hW
          rw [HL.out, HU2.out] at DE
          clear dE FN
          have hz : (E == 0) = false := by simp [hE]
          cases gone with
          | false =>
            go_wp2_with (go_at_call 24; refine (hat _).mono ?_; rintro e w' ⟨rfl, rfl⟩)
            obtain ⟨W, hW⟩ : ∃ W, W = wr.alloc (Obj.cells #[Value.slice (some ⟨g2, 0, none⟩) n n] 24) := ⟨_, rfl⟩
            rw [← hW]
            have hWs : W.heap.size = wr.heap.size + 1 := by rw [hW]; simp
            have HBW : Hid (Below wr.heap.size wr W) := by rw [hW]; exact (Below.refl _ _).alloc (Nat.le_refl _) _
            have t1 : W.cell? ⟨wr.heap.size, 0, none⟩ = some (.slice (some ⟨g2, 0, none⟩) n n) := by rw [hW]; go_simp
            have t2 : ∀ o, W.frozen? ⟨wr.heap.size, o, none⟩ = false := fun o => by rw [hW]; go_simp
            have j2 := (HBW.out.cell (p := ⟨w.heap.size, 0, none⟩) q1).trans i2
            have j3 := fun o => (HBW.out.frozen (p := ⟨w.heap.size, o, none⟩) q1).trans (i3 o)
            have j4 := (HBW.out.cell (p := ⟨w1.heap.size, 0, none⟩) q2).trans i4
            have j5 := (HBW.out.cell (p := ⟨w1.heap.size, 1, none⟩) q2).trans i5
            have j6 := (HBW.out.cell (p := ⟨g2, p * 8 + 1, none⟩) q3).trans fc1
            have r1 : w.heap.size < W.heap.size := by omega
            have r2 : w1.heap.size < W.heap.size := by omega
            have r3 : wr.heap.size < W.heap.size := by omega
            have x1 : ¬ wr.heap.size = w.heap.size := by omega
            have x2 : ¬ w.heap.size = wr.heap.size := by omega
            have x3 : ¬ wr.heap.size = w1.heap.size := by omega
            have x4 : ¬ w1.heap.size = wr.heap.size := by omega
            have x5 : ¬ wr.heap.size = g2 := by omega
            have x6 : ¬ g2 = wr.heap.size := by omega
            have x7 : ¬ w.heap.size = w1.heap.size := by omega
            have x8 : ¬ w1.heap.size = w.heap.size := by omega
            clear hW i2 i3 i4 i5 fc1 hxc
            have r4 : g2 < W.heap.size := by omega
            go_region_held3 (fun w'' => w''.cell? ⟨w.heap.size, 0, none⟩ = some (.slice (some ⟨g2, 0, none⟩) n n) ∧ w''.cell? ⟨g2, p * 8 + 1, none⟩ = some (.int .i64 u)) (go_keep) (first | (go_at_call 13; refine (DE.out _ (HS2.out.below HBW.out.drew)).mono ?_; rintro e w4 ⟨rfl, hb4⟩; have hb5 : Below W.heap.size W w4 := (((Below.refl _ W).drew).trans hb4); have m1 := (hb5.cell (p := ⟨w.heap.size, 0, none⟩) r1).trans j2; have m2 := (hb5.cell (p := ⟨g2, p * 8 + 1, none⟩) r4).trans j6; have m3 := fun o => (hb5.frozen (p := ⟨w.heap.size, o, none⟩) r1).trans (j3 o); have m4 := (hb5.cell (p := ⟨w1.heap.size, 0, none⟩) r2).trans j4; have m5 := (hb5.cell (p := ⟨w1.heap.size, 1, none⟩) r2).trans j5; have m6 := (hb5.cell (p := ⟨wr.heap.size, 0, none⟩) r3).trans t1; have m7 := fun o => (hb5.frozen (p := ⟨wr.heap.size, o, none⟩) r3).trans (t2 o); have hs4 := hb5.size; have HB4 : Hid (Below W.heap.size W w4) := hb5; clear hb4 hb5))
            clear j2 j3 j4 j5 j6 t1 t2
            go_wp2_with fail
            have HY : Hid (HoldI w w1 w.heap.size w1.heap.size n k hu tag false g2 S2 (w4.setCell ⟨wr.heap.size, 0, none⟩ (.slice none 0 0))) := by
              refine ⟨?_, ?_, fun o => ?_, ?_, ?_, ?_, HL.out, HW2.out, HH2.out, by simp; omega⟩
              · exact (HB.out.trans ((HBW.out.trans (HB4.out.mono (by omega))).mono HB.out.size)).setCell (by simp; have := HB.out.size; omega) _
              · go_simp
              · go_simp
              · go_simp
              · go_simp
              · exact HS2.out.below ((HBW.out.trans (HB4.out.mono (by omega))).setCell (by simp) _)
            clear m1 m2 m3 m4 m5 m6 m7 HB4
            obtain ⟨k1, k2, k3, k4, k5, k6, k7, k8, k9, k10⟩ := HY.out
            have dc := check_any (some ⟨g2, 0, none⟩) n S2 _ (by have := k8.small; omega) k8.big k6
            rw [(wf_iff _).2 k8, k7] at dc
            refine dc.mono ?_
            rintro e w5 ⟨rfl, hb5⟩
            have HY5 : Hid (HoldI w w1 w.heap.size w1.heap.size n k hu tag false g2 S2 w5) := HoldI.below HY.out hb5
            clear HY k1 k2 k3 k4 k5 k6 k7 k8 k9 k10 dc hb5
            obtain ⟨k1, k2, k3, k4, k5, k6, k7, k8, k9, k10⟩ := HY5.out
            obtain ⟨fz, ft⟩ := k9.find k8
            have df := find_ok (some ⟨g2, 0, none⟩) n S2 k hu w5 (by have := k8.small; omega) k8.big k6 k9.1 fz (by have := k8.kids_small k9.1; omega)
            rw [k7, ft] at df
            have DF : Hid _ := df
            clear df k1 k6 k7 k8 k9 k10 fz ft
            obtain ⟨x4, hx4⟩ : ∃ x, nd S2 k = x := ⟨_, rfl⟩
            rw [hx4] at DF
            clear hx4
            go_wp2_with fail
            refine Calls.mono DF.out ?_
            rintro e w7 ⟨fg, rfl, hb7, _⟩
            have HY7 : Hid (HoldI w w1 w.heap.size w1.heap.size n k hu tag false g2 S2 w7) := HoldI.below HY5.out hb7
            clear k2 k3 k4 k5 hb7 DF HY5
            go_wp2
            go_roundg (M - (j + 1))
            case measure => omega
            case rel => exact ⟨j + 1, false, g2, S2, by omega, by omega, by go_num, rfl, HoldI.below HY7.out ((Below.refl _ _).alloc (Nat.le_refl _) _)⟩
          | true =>
            go_wp2_with (go_at_call 24; refine (hat _).mono ?_; rintro e w' ⟨rfl, rfl⟩)
            obtain ⟨W, hW⟩ : ∃ W, W = wr.alloc (Obj.cells #[Value.slice (some ⟨g2, 0, none⟩) n n] 24) := ⟨_, rfl⟩
            rw [← hW]
            have hWs : W.heap.size = wr.heap.size + 1 := by rw [hW]; simp
            have HBW : Hid (Below wr.heap.size wr W) := by rw [hW]; exact (Below.refl _ _).alloc (Nat.le_refl _) _
            have t1 : W.cell? ⟨wr.heap.size, 0, none⟩ = some (.slice (some ⟨g2, 0, none⟩) n n) := by rw [hW]; go_simp
            have t2 : ∀ o, W.frozen? ⟨wr.heap.size, o, none⟩ = false := fun o => by rw [hW]; go_simp
            have j2 := (HBW.out.cell (p := ⟨w.heap.size, 0, none⟩) q1).trans i2
            have j3 := fun o => (HBW.out.frozen (p := ⟨w.heap.size, o, none⟩) q1).trans (i3 o)
            have j4 := (HBW.out.cell (p := ⟨w1.heap.size, 0, none⟩) q2).trans i4
            have j5 := (HBW.out.cell (p := ⟨w1.heap.size, 1, none⟩) q2).trans i5
            have j6 := (HBW.out.cell (p := ⟨g2, p * 8 + 1, none⟩) q3).trans fc1
            have r1 : w.heap.size < W.heap.size := by omega
            have r2 : w1.heap.size < W.heap.size := by omega
            have r3 : wr.heap.size < W.heap.size := by omega
            have x1 : ¬ wr.heap.size = w.heap.size := by omega
            have x2 : ¬ w.heap.size = wr.heap.size := by omega
            have x3 : ¬ wr.heap.size = w1.heap.size := by omega
            have x4 : ¬ w1.heap.size = wr.heap.size := by omega
            have x5 : ¬ wr.heap.size = g2 := by omega
            have x6 : ¬ g2 = wr.heap.size := by omega
            have x7 : ¬ w.heap.size = w1.heap.size := by omega
            have x8 : ¬ w1.heap.size = w.heap.size := by omega
            clear hW i2 i3 i4 i5 fc1 hxc
            have r4 : g2 < W.heap.size := by omega
            go_region_held3 (fun w'' => w''.cell? ⟨w.heap.size, 0, none⟩ = some (.slice (some ⟨g2, 0, none⟩) n n) ∧ w''.cell? ⟨g2, p * 8 + 1, none⟩ = some (.int .i64 u)) (go_keep) (first | (go_at_call 13; refine (DE.out _ (HS2.out.below HBW.out.drew)).mono ?_; rintro e w4 ⟨rfl, hb4⟩; have hb5 : Below W.heap.size W w4 := (((Below.refl _ W).drew).trans hb4); have m1 := (hb5.cell (p := ⟨w.heap.size, 0, none⟩) r1).trans j2; have m2 := (hb5.cell (p := ⟨g2, p * 8 + 1, none⟩) r4).trans j6; have m3 := fun o => (hb5.frozen (p := ⟨w.heap.size, o, none⟩) r1).trans (j3 o); have m4 := (hb5.cell (p := ⟨w1.heap.size, 0, none⟩) r2).trans j4; have m5 := (hb5.cell (p := ⟨w1.heap.size, 1, none⟩) r2).trans j5; have m6 := (hb5.cell (p := ⟨wr.heap.size, 0, none⟩) r3).trans t1; have m7 := fun o => (hb5.frozen (p := ⟨wr.heap.size, o, none⟩) r3).trans (t2 o); have hs4 := hb5.size; have HB4 : Hid (Below W.heap.size W w4) := hb5; clear hb4 hb5))
            clear j2 j3 j4 j5 j6 t1 t2
            go_wp2_with fail
            have HY : Hid (HoldI w w1 w.heap.size w1.heap.size n k hu tag true g2 S2 (w4.setCell ⟨wr.heap.size, 0, none⟩ (.slice none 0 0))) := by
              refine ⟨?_, ?_, fun o => ?_, ?_, ?_, ?_, HL.out, HW2.out, HH2.out, by simp; omega⟩
              · exact (HB.out.trans ((HBW.out.trans (HB4.out.mono (by omega))).mono HB.out.size)).setCell (by simp; have := HB.out.size; omega) _
              · go_simp
              · go_simp
              · go_simp
              · go_simp
              · exact HS2.out.below ((HBW.out.trans (HB4.out.mono (by omega))).setCell (by simp) _)
            clear m1 m2 m3 m4 m5 m6 m7 HB4
            obtain ⟨k1, k2, k3, k4, k5, k6, k7, k8, k9, k10⟩ := HY.out
            have dc := check_any (some ⟨g2, 0, none⟩) n S2 _ (by have := k8.small; omega) k8.big k6
            rw [(wf_iff _).2 k8, k7] at dc
            refine dc.mono ?_
            rintro e w5 ⟨rfl, hb5⟩
            have HY5 : Hid (HoldI w w1 w.heap.size w1.heap.size n k hu tag true g2 S2 w5) := HoldI.below HY.out hb5
            clear HY k1 k2 k3 k4 k5 k6 k7 k8 k9 k10 dc hb5
            obtain ⟨k1, k2, k3, k4, k5, k6, k7, k8, k9, k10⟩ := HY5.out
            have dh := holds_any (some ⟨g2, 0, none⟩) n S2 k hu w5 (by have := k8.small; omega) k6
            rw [k9.gone, k7] at dh
            have DH : Hid _ := dh
            clear dh k1 k6 k7 k8 k9 k10
            go_wp2_with fail
            refine Calls.mono DH.out ?_
            rintro e w6 ⟨rfl, hb6⟩
            have HY6 : Hid (HoldI w w1 w.heap.size w1.heap.size n k hu tag true g2 S2 w6) := HoldI.below HY5.out hb6
            clear DH k2 k3 k4 k5 hb6
            obtain ⟨k1, k2, k3, k4, k5, k6, k7, k8, k9, k10⟩ := HY6.out
            have df := find_err (some ⟨g2, 0, none⟩) n S2 k hu 5 w6 (by have := k8.small; omega) k8.big k6 (k9.find_gone k8) (by omega)
            rw [k7] at df
            have DF : Hid _ := df
            clear df k1 k6 k7 k8 k9 k10
            go_wp2_with fail
            refine Calls.mono DF.out ?_
            rintro e w7 ⟨rfl, hb7⟩
            have HY7 : Hid (HoldI w w1 w.heap.size w1.heap.size n k hu tag true g2 S2 w7) := HoldI.below HY6.out hb7
            clear k2 k3 k4 k5 hb7 DF HY5 HY6
            go_wp2
            go_roundg (M - (j + 1))
            case measure => omega
            case rel => exact ⟨j + 1, true, g2, S2, by omega, by omega, by go_num, rfl, HoldI.below HY7.out ((Below.refl _ _).alloc (Nat.le_refl _) _)⟩
        · obtain ⟨S3, hS3⟩ : ∃ S3, S2.set p (freedNd (nd S2 p)) = S3 := ⟨_, rfl⟩
          have HW3 : Hid (WF S3) := by rw [← hS3]; exact HW2.out.free (by rw [HL.out]; exact hp) hL
          have HL3 : Hid (S3.length = n) := by rw [← hS3, List.length_set]; exact HL.out
          have HHf : Hid (∀ g2 : Bool, (g2 = true ↔ (gone = true ∨ p = k)) → HeldS S3 k hu tag g2) := fun g2 hg => by rw [← hS3]; exact HH2.out.free (by rw [HL.out]; exact hp) g2 hg
          have DE : Hid (∀ W, NdsAt W (some ⟨g2, 0, none⟩) S2 → Calls _ _ _ _ _) := fun W hW => free_ok (some ⟨g2, 0, none⟩) n S2 p _ W HW2.out.small (fun i hi => by have := HW2.out.kids_small hi; omega) hW (by rw [HL.out]; exact hp) hE hL
          rw [hS3, HL.out, HU2.out] at DE
          clear hE hL hS3 FN
          cases gone with
          | true =>
            have HH3 : Hid (HeldS S3 k hu tag true) := HHf.out true (by simp)
            clear HHf
            go_wp2_with (go_at_call 24; refine (hat _).mono ?_; rintro e w' ⟨rfl, rfl⟩)
            obtain ⟨W, hW⟩ : ∃ W, W = wr.alloc (Obj.cells #[Value.slice (some ⟨g2, 0, none⟩) n n] 24) := ⟨_, rfl⟩
            rw [← hW]
            have hWs : W.heap.size = wr.heap.size + 1 := by rw [hW]; simp
            have HBW : Hid (Below wr.heap.size wr W) := by rw [hW]; exact (Below.refl _ _).alloc (Nat.le_refl _) _
            have t1 : W.cell? ⟨wr.heap.size, 0, none⟩ = some (.slice (some ⟨g2, 0, none⟩) n n) := by rw [hW]; go_simp
            have t2 : ∀ o, W.frozen? ⟨wr.heap.size, o, none⟩ = false := fun o => by rw [hW]; go_simp
            have j2 := (HBW.out.cell (p := ⟨w.heap.size, 0, none⟩) q1).trans i2
            have j3 := fun o => (HBW.out.frozen (p := ⟨w.heap.size, o, none⟩) q1).trans (i3 o)
            have j4 := (HBW.out.cell (p := ⟨w1.heap.size, 0, none⟩) q2).trans i4
            have j5 := (HBW.out.cell (p := ⟨w1.heap.size, 1, none⟩) q2).trans i5
            have j6 := (HBW.out.cell (p := ⟨g2, p * 8 + 1, none⟩) q3).trans fc1
            have r1 : w.heap.size < W.heap.size := by omega
            have r2 : w1.heap.size < W.heap.size := by omega
            have r3 : wr.heap.size < W.heap.size := by omega
            have x1 : ¬ wr.heap.size = w.heap.size := by omega
            have x2 : ¬ w.heap.size = wr.heap.size := by omega
            have x3 : ¬ wr.heap.size = w1.heap.size := by omega
            have x4 : ¬ w1.heap.size = wr.heap.size := by omega
            have x5 : ¬ wr.heap.size = g2 := by omega
            have x6 : ¬ g2 = wr.heap.size := by omega
            have x7 : ¬ w.heap.size = w1.heap.size := by omega
            have x8 : ¬ w1.heap.size = w.heap.size := by omega
            clear hW i2 i3 i4 i5 fc1 hxc
            have r4 : g2 < W.heap.size := by omega
            go_region_held3 (fun w'' => w''.cell? ⟨w.heap.size, 0, none⟩ = some (.slice (some ⟨g2, 0, none⟩) n n) ∧ w''.cell? ⟨g2, p * 8 + 1, none⟩ = some (.int .i64 u)) (go_keep) (first | (go_at_call 13; refine (DE.out _ (HS2.out.below HBW.out.drew)).mono ?_; rintro e w4 ⟨g4, rfl, hb4, hg4, hup4⟩; have hb5 : Below W.heap.size W w4 := (((Below.refl _ W).drew).trans hb4); have m1 := (hb5.cell (p := ⟨w.heap.size, 0, none⟩) r1).trans j2; have m2 := (hb5.cell (p := ⟨g2, p * 8 + 1, none⟩) r4).trans j6; have m3 := fun o => (hb5.frozen (p := ⟨w.heap.size, o, none⟩) r1).trans (j3 o); have m4 := (hb5.cell (p := ⟨w1.heap.size, 0, none⟩) r2).trans j4; have m5 := (hb5.cell (p := ⟨w1.heap.size, 1, none⟩) r2).trans j5; have m6 := (hb5.cell (p := ⟨wr.heap.size, 0, none⟩) r3).trans t1; have m7 := fun o => (hb5.frozen (p := ⟨wr.heap.size, o, none⟩) r3).trans (t2 o); have hs4 := hb5.size; have HB4 : Hid (Below W.heap.size W w4) := hb5; clear hb4 hb5; have HUP : Hid (∀ w3 : World, (∀ b, g4 ≤ b → w3.heap[b]? = w4.heap[b]?) → NdsAt w3 (some ⟨g4, 0, none⟩) S3) := hup4; have hg5 : W.heap.size ≤ g4 := hg4; clear hup4 hg4))
            clear j2 j3 j4 j5 j6 t1 t2
            have hs5 : W.heap.size ≤ w4.heap.size := hs4
            go_wp2_with fail
            have HY : Hid (HoldI w w1 w.heap.size w1.heap.size n k hu tag true g4 S3 ((w4.setCell ⟨wr.heap.size, 0, none⟩ (.slice (some ⟨g4, 0, none⟩) n n)).setCell ⟨w.heap.size, 0, none⟩ (.slice (some ⟨g4, 0, none⟩) n n))) := by
              refine ⟨?_, ?_, fun o => ?_, ?_, ?_, ?_, HL3.out, HW3.out, HH3.out, by simp; omega⟩
              · exact ((HB.out.trans ((HBW.out.trans (HB4.out.mono (by omega))).mono HB.out.size)).setCell (by simp; have := HB.out.size; omega) _).setCell (by simp) _
              · go_simp
              · go_simp
              · go_simp
              · go_simp
              · refine HUP.out _ (fun b hb => ?_)
                rw [Below.heap_setCell _ _ _ _ (by show b ≠ w.heap.size; omega), Below.heap_setCell _ _ _ _ (by show b ≠ wr.heap.size; omega)]
            clear m1 m2 m3 m4 m5 m6 m7 HB4 HUP
            obtain ⟨k1, k2, k3, k4, k5, k6, k7, k8, k9, k10⟩ := HY.out
            have dc := check_any (some ⟨g4, 0, none⟩) n S3 _ (by have := k8.small; omega) k8.big k6
            rw [(wf_iff _).2 k8, k7] at dc
            refine dc.mono ?_
            rintro e w5 ⟨rfl, hb5⟩
            have HY5 : Hid (HoldI w w1 w.heap.size w1.heap.size n k hu tag true g4 S3 w5) := HoldI.below HY.out hb5
            clear HY k1 k2 k3 k4 k5 k6 k7 k8 k9 k10 dc hb5
            obtain ⟨k1, k2, k3, k4, k5, k6, k7, k8, k9, k10⟩ := HY5.out
            have dh := holds_any (some ⟨g4, 0, none⟩) n S3 k hu w5 (by have := k8.small; omega) k6
            rw [k9.gone, k7] at dh
            have DH : Hid _ := dh
            clear dh k1 k6 k7 k8 k9 k10
            go_wp2_with fail
            refine Calls.mono DH.out ?_
            rintro e w6 ⟨rfl, hb6⟩
            have HY6 : Hid (HoldI w w1 w.heap.size w1.heap.size n k hu tag true g4 S3 w6) := HoldI.below HY5.out hb6
            clear DH k2 k3 k4 k5 hb6
            obtain ⟨k1, k2, k3, k4, k5, k6, k7, k8, k9, k10⟩ := HY6.out
            have df := find_err (some ⟨g4, 0, none⟩) n S3 k hu 5 w6 (by have := k8.small; omega) k8.big k6 (k9.find_gone k8) (by omega)
            rw [k7] at df
            have DF : Hid _ := df
            clear df k1 k6 k7 k8 k9 k10
            go_wp2_with fail
            refine Calls.mono DF.out ?_
            rintro e w7 ⟨rfl, hb7⟩
            have HY7 : Hid (HoldI w w1 w.heap.size w1.heap.size n k hu tag true g4 S3 w7) := HoldI.below HY6.out hb7
            clear k2 k3 k4 k5 hb7 DF HY5 HY6
            go_wp2
            go_roundg (M - (j + 1))
            case measure => omega
            case rel => exact ⟨j + 1, true, g4, S3, by omega, by omega, by go_num, rfl, HoldI.below HY7.out ((Below.refl _ _).alloc (Nat.le_refl _) _)⟩
          | false =>
            by_cases hpk : p = k
            · have hpkb : ((p : Int) == (k : Int)) = true := by rw [hpk]; exact beq_self_eq_true _
              have HH3 : Hid (HeldS S3 k hu tag true) := HHf.out true (by simp [hpk])
              clear hpk HHf
              go_wp2_with (go_at_call 24; refine (hat _).mono ?_; rintro e w' ⟨rfl, rfl⟩)
              obtain ⟨W, hW⟩ : ∃ W, W = wr.alloc (Obj.cells #[Value.slice (some ⟨g2, 0, none⟩) n n] 24) := ⟨_, rfl⟩
              rw [← hW]
              have hWs : W.heap.size = wr.heap.size + 1 := by rw [hW]; simp
              have HBW : Hid (Below wr.heap.size wr W) := by rw [hW]; exact (Below.refl _ _).alloc (Nat.le_refl _) _
              have t1 : W.cell? ⟨wr.heap.size, 0, none⟩ = some (.slice (some ⟨g2, 0, none⟩) n n) := by rw [hW]; go_simp
              have t2 : ∀ o, W.frozen? ⟨wr.heap.size, o, none⟩ = false := fun o => by rw [hW]; go_simp
              have j2 := (HBW.out.cell (p := ⟨w.heap.size, 0, none⟩) q1).trans i2
              have j3 := fun o => (HBW.out.frozen (p := ⟨w.heap.size, o, none⟩) q1).trans (i3 o)
              have j4 := (HBW.out.cell (p := ⟨w1.heap.size, 0, none⟩) q2).trans i4
              have j5 := (HBW.out.cell (p := ⟨w1.heap.size, 1, none⟩) q2).trans i5
              have j6 := (HBW.out.cell (p := ⟨g2, p * 8 + 1, none⟩) q3).trans fc1
              have r1 : w.heap.size < W.heap.size := by omega
              have r2 : w1.heap.size < W.heap.size := by omega
              have r3 : wr.heap.size < W.heap.size := by omega
              have x1 : ¬ wr.heap.size = w.heap.size := by omega
              have x2 : ¬ w.heap.size = wr.heap.size := by omega
              have x3 : ¬ wr.heap.size = w1.heap.size := by omega
              have x4 : ¬ w1.heap.size = wr.heap.size := by omega
              have x5 : ¬ wr.heap.size = g2 := by omega
              have x6 : ¬ g2 = wr.heap.size := by omega
              have x7 : ¬ w.heap.size = w1.heap.size := by omega
              have x8 : ¬ w1.heap.size = w.heap.size := by omega
              clear hW i2 i3 i4 i5 fc1 hxc
              have r4 : g2 < W.heap.size := by omega
              go_region_held3 (fun w'' => w''.cell? ⟨w.heap.size, 0, none⟩ = some (.slice (some ⟨g2, 0, none⟩) n n) ∧ w''.cell? ⟨g2, p * 8 + 1, none⟩ = some (.int .i64 u)) (go_keep) (first | (go_at_call 13; refine (DE.out _ (HS2.out.below HBW.out.drew)).mono ?_; rintro e w4 ⟨g4, rfl, hb4, hg4, hup4⟩; have hb5 : Below W.heap.size W w4 := (((Below.refl _ W).drew).trans hb4); have m1 := (hb5.cell (p := ⟨w.heap.size, 0, none⟩) r1).trans j2; have m2 := (hb5.cell (p := ⟨g2, p * 8 + 1, none⟩) r4).trans j6; have m3 := fun o => (hb5.frozen (p := ⟨w.heap.size, o, none⟩) r1).trans (j3 o); have m4 := (hb5.cell (p := ⟨w1.heap.size, 0, none⟩) r2).trans j4; have m5 := (hb5.cell (p := ⟨w1.heap.size, 1, none⟩) r2).trans j5; have m6 := (hb5.cell (p := ⟨wr.heap.size, 0, none⟩) r3).trans t1; have m7 := fun o => (hb5.frozen (p := ⟨wr.heap.size, o, none⟩) r3).trans (t2 o); have hs4 := hb5.size; have HB4 : Hid (Below W.heap.size W w4) := hb5; clear hb4 hb5; have HUP : Hid (∀ w3 : World, (∀ b, g4 ≤ b → w3.heap[b]? = w4.heap[b]?) → NdsAt w3 (some ⟨g4, 0, none⟩) S3) := hup4; have hg5 : W.heap.size ≤ g4 := hg4; clear hup4 hg4))
              clear j2 j3 j4 j5 j6 t1 t2
              have hs5 : W.heap.size ≤ w4.heap.size := hs4
              go_wp2_with fail
              have HY : Hid (HoldI w w1 w.heap.size w1.heap.size n k hu tag true g4 S3 ((w4.setCell ⟨wr.heap.size, 0, none⟩ (.slice (some ⟨g4, 0, none⟩) n n)).setCell ⟨w.heap.size, 0, none⟩ (.slice (some ⟨g4, 0, none⟩) n n))) := by
                refine ⟨?_, ?_, fun o => ?_, ?_, ?_, ?_, HL3.out, HW3.out, HH3.out, by simp; omega⟩
                · exact ((HB.out.trans ((HBW.out.trans (HB4.out.mono (by omega))).mono HB.out.size)).setCell (by simp; have := HB.out.size; omega) _).setCell (by simp) _
                · go_simp
                · go_simp
                · go_simp
                · go_simp
                · refine HUP.out _ (fun b hb => ?_)
                  rw [Below.heap_setCell _ _ _ _ (by show b ≠ w.heap.size; omega), Below.heap_setCell _ _ _ _ (by show b ≠ wr.heap.size; omega)]
              clear m1 m2 m3 m4 m5 m6 m7 HB4 HUP
              obtain ⟨k1, k2, k3, k4, k5, k6, k7, k8, k9, k10⟩ := HY.out
              have dc := check_any (some ⟨g4, 0, none⟩) n S3 _ (by have := k8.small; omega) k8.big k6
              rw [(wf_iff _).2 k8, k7] at dc
              refine dc.mono ?_
              rintro e w5 ⟨rfl, hb5⟩
              have HY5 : Hid (HoldI w w1 w.heap.size w1.heap.size n k hu tag true g4 S3 w5) := HoldI.below HY.out hb5
              clear HY k1 k2 k3 k4 k5 k6 k7 k8 k9 k10 dc hb5
              obtain ⟨k1, k2, k3, k4, k5, k6, k7, k8, k9, k10⟩ := HY5.out
              have dh := holds_any (some ⟨g4, 0, none⟩) n S3 k hu w5 (by have := k8.small; omega) k6
              rw [k9.gone, k7] at dh
              have DH : Hid _ := dh
              clear dh k1 k6 k7 k8 k9 k10
              go_wp2_with fail
              refine Calls.mono DH.out ?_
              rintro e w6 ⟨rfl, hb6⟩
              have HY6 : Hid (HoldI w w1 w.heap.size w1.heap.size n k hu tag true g4 S3 w6) := HoldI.below HY5.out hb6
              clear DH k2 k3 k4 k5 hb6
              obtain ⟨k1, k2, k3, k4, k5, k6, k7, k8, k9, k10⟩ := HY6.out
              have df := find_err (some ⟨g4, 0, none⟩) n S3 k hu 5 w6 (by have := k8.small; omega) k8.big k6 (k9.find_gone k8) (by omega)
              rw [k7] at df
              have DF : Hid _ := df
              clear df k1 k6 k7 k8 k9 k10
              go_wp2_with fail
              refine Calls.mono DF.out ?_
              rintro e w7 ⟨rfl, hb7⟩
              have HY7 : Hid (HoldI w w1 w.heap.size w1.heap.size n k hu tag true g4 S3 w7) := HoldI.below HY6.out hb7
              clear k2 k3 k4 k5 hb7 DF HY5 HY6
              go_wp2
              go_roundg (M - (j + 1))
              case measure => omega
              case rel => exact ⟨j + 1, true, g4, S3, by omega, by omega, by go_num, rfl, HoldI.below HY7.out ((Below.refl _ _).alloc (Nat.le_refl _) _)⟩
            · have hpkb : ((p : Int) == (k : Int)) = false := by simp; omega
              have HH3 : Hid (HeldS S3 k hu tag false) := HHf.out false (by simp [hpk])
              clear hpk HHf
              go_wp2_with (go_at_call 24; refine (hat _).mono ?_; rintro e w' ⟨rfl, rfl⟩)
              obtain ⟨W, hW⟩ : ∃ W, W = wr.alloc (Obj.cells #[Value.slice (some ⟨g2, 0, none⟩) n n] 24) := ⟨_, rfl⟩
              rw [← hW]
              have hWs : W.heap.size = wr.heap.size + 1 := by rw [hW]; simp
              have HBW : Hid (Below wr.heap.size wr W) := by rw [hW]; exact (Below.refl _ _).alloc (Nat.le_refl _) _
              have t1 : W.cell? ⟨wr.heap.size, 0, none⟩ = some (.slice (some ⟨g2, 0, none⟩) n n) := by rw [hW]; go_simp
              have t2 : ∀ o, W.frozen? ⟨wr.heap.size, o, none⟩ = false := fun o => by rw [hW]; go_simp
              have j2 := (HBW.out.cell (p := ⟨w.heap.size, 0, none⟩) q1).trans i2
              have j3 := fun o => (HBW.out.frozen (p := ⟨w.heap.size, o, none⟩) q1).trans (i3 o)
              have j4 := (HBW.out.cell (p := ⟨w1.heap.size, 0, none⟩) q2).trans i4
              have j5 := (HBW.out.cell (p := ⟨w1.heap.size, 1, none⟩) q2).trans i5
              have j6 := (HBW.out.cell (p := ⟨g2, p * 8 + 1, none⟩) q3).trans fc1
              have r1 : w.heap.size < W.heap.size := by omega
              have r2 : w1.heap.size < W.heap.size := by omega
              have r3 : wr.heap.size < W.heap.size := by omega
              have x1 : ¬ wr.heap.size = w.heap.size := by omega
              have x2 : ¬ w.heap.size = wr.heap.size := by omega
              have x3 : ¬ wr.heap.size = w1.heap.size := by omega
              have x4 : ¬ w1.heap.size = wr.heap.size := by omega
              have x5 : ¬ wr.heap.size = g2 := by omega
              have x6 : ¬ g2 = wr.heap.size := by omega
              have x7 : ¬ w.heap.size = w1.heap.size := by omega
              have x8 : ¬ w1.heap.size = w.heap.size := by omega
              clear hW i2 i3 i4 i5 fc1 hxc
              have r4 : g2 < W.heap.size := by omega
              go_region_held3 (fun w'' => w''.cell? ⟨w.heap.size, 0, none⟩ = some (.slice (some ⟨g2, 0, none⟩) n n) ∧ w''.cell? ⟨g2, p * 8 + 1, none⟩ = some (.int .i64 u)) (go_keep) (first | (go_at_call 13; refine (DE.out _ (HS2.out.below HBW.out.drew)).mono ?_; rintro e w4 ⟨g4, rfl, hb4, hg4, hup4⟩; have hb5 : Below W.heap.size W w4 := (((Below.refl _ W).drew).trans hb4); have m1 := (hb5.cell (p := ⟨w.heap.size, 0, none⟩) r1).trans j2; have m2 := (hb5.cell (p := ⟨g2, p * 8 + 1, none⟩) r4).trans j6; have m3 := fun o => (hb5.frozen (p := ⟨w.heap.size, o, none⟩) r1).trans (j3 o); have m4 := (hb5.cell (p := ⟨w1.heap.size, 0, none⟩) r2).trans j4; have m5 := (hb5.cell (p := ⟨w1.heap.size, 1, none⟩) r2).trans j5; have m6 := (hb5.cell (p := ⟨wr.heap.size, 0, none⟩) r3).trans t1; have m7 := fun o => (hb5.frozen (p := ⟨wr.heap.size, o, none⟩) r3).trans (t2 o); have hs4 := hb5.size; have HB4 : Hid (Below W.heap.size W w4) := hb5; clear hb4 hb5; have HUP : Hid (∀ w3 : World, (∀ b, g4 ≤ b → w3.heap[b]? = w4.heap[b]?) → NdsAt w3 (some ⟨g4, 0, none⟩) S3) := hup4; have hg5 : W.heap.size ≤ g4 := hg4; clear hup4 hg4))
              clear j2 j3 j4 j5 j6 t1 t2
              have hs5 : W.heap.size ≤ w4.heap.size := hs4
              go_wp2_with fail
              have HY : Hid (HoldI w w1 w.heap.size w1.heap.size n k hu tag false g4 S3 ((w4.setCell ⟨wr.heap.size, 0, none⟩ (.slice (some ⟨g4, 0, none⟩) n n)).setCell ⟨w.heap.size, 0, none⟩ (.slice (some ⟨g4, 0, none⟩) n n))) := by
                refine ⟨?_, ?_, fun o => ?_, ?_, ?_, ?_, HL3.out, HW3.out, HH3.out, by simp; omega⟩
                · exact ((HB.out.trans ((HBW.out.trans (HB4.out.mono (by omega))).mono HB.out.size)).setCell (by simp; have := HB.out.size; omega) _).setCell (by simp) _
                · go_simp
                · go_simp
                · go_simp
                · go_simp
                · refine HUP.out _ (fun b hb => ?_)
                  rw [Below.heap_setCell _ _ _ _ (by show b ≠ w.heap.size; omega), Below.heap_setCell _ _ _ _ (by show b ≠ wr.heap.size; omega)]
              clear m1 m2 m3 m4 m5 m6 m7 HB4 HUP
              obtain ⟨k1, k2, k3, k4, k5, k6, k7, k8, k9, k10⟩ := HY.out
              have dc := check_any (some ⟨g4, 0, none⟩) n S3 _ (by have := k8.small; omega) k8.big k6
              rw [(wf_iff _).2 k8, k7] at dc
              refine dc.mono ?_
              rintro e w5 ⟨rfl, hb5⟩
              have HY5 : Hid (HoldI w w1 w.heap.size w1.heap.size n k hu tag false g4 S3 w5) := HoldI.below HY.out hb5
              clear HY k1 k2 k3 k4 k5 k6 k7 k8 k9 k10 dc hb5
              obtain ⟨k1, k2, k3, k4, k5, k6, k7, k8, k9, k10⟩ := HY5.out
              obtain ⟨fz, ft⟩ := k9.find k8
              have df := find_ok (some ⟨g4, 0, none⟩) n S3 k hu w5 (by have := k8.small; omega) k8.big k6 k9.1 fz (by have := k8.kids_small k9.1; omega)
              rw [k7, ft] at df
              have DF : Hid _ := df
              clear df k1 k6 k7 k8 k9 k10 fz ft
              obtain ⟨x4, hx4⟩ : ∃ x, nd S3 k = x := ⟨_, rfl⟩
              rw [hx4] at DF
              clear hx4
              go_wp2_with fail
              refine Calls.mono DF.out ?_
              rintro e w7 ⟨fg, rfl, hb7, _⟩
              have HY7 : Hid (HoldI w w1 w.heap.size w1.heap.size n k hu tag false g4 S3 w7) := HoldI.below HY5.out hb7
              clear k2 k3 k4 k5 hb7 DF HY5
              go_wp2
              go_roundg (M - (j + 1))
              case measure => omega
              case rel => exact ⟨j + 1, false, g4, S3, by omega, by omega, by go_num, rfl, HoldI.below HY7.out ((Below.refl _ _).alloc (Nat.le_refl _) _)⟩
      · obtain ⟨q, hq, hat0⟩ := at_fix y 100 (by omega) (by omega)
        have hat : ∀ W, Calls Try.prog 24 #[.int .i64 y, .int .i64 100] W fun e w' => e = .returned (.int .i64 (q : Int)) ∧ w' = W := hat0
        clear hat0
        have MN : Hid _ := make_no HW2.out (t := (q : Int)) (by omega) (by omega)
        rcases MN.out with ⟨E, hE, dE⟩ | ⟨kk, hkk, hfk, dE⟩
        · have DE : Hid (∀ W, NdsAt W (some ⟨g2, 0, none⟩) S2 → Calls _ _ _ _ _) := fun W hW => dE (some ⟨g2, 0, none⟩) n W hW
          rw [HL.out] at DE
          clear dE MN
          have hz : (E == 0) = false := by simp [hE]
          cases gone with
          | false =>
            go_wp2_with fail
            obtain ⟨W, hW⟩ : ∃ W, W = (wr.alloc (Obj.cells #[Value.slice (some ⟨g2, 0, none⟩) n n] 24)).alloc (Obj.cells #[Value.int .i64 0, Value.int .i64 0] 26) := ⟨_, rfl⟩
            rw [← hW]
            have hWs : W.heap.size = wr.heap.size + 1 + 1 := by rw [hW]; simp
            have HBW : Hid (Below wr.heap.size wr W) := by rw [hW]; exact ((Below.refl _ _).alloc (Nat.le_refl _) _).alloc (by simp) _
            have t1 : W.cell? ⟨wr.heap.size, 0, none⟩ = some (.slice (some ⟨g2, 0, none⟩) n n) := by rw [hW]; go_simp
            have t2 : ∀ o, W.frozen? ⟨wr.heap.size, o, none⟩ = false := fun o => by rw [hW]; go_simp
            have t3 : W.cell? ⟨wr.heap.size + 1, 0, none⟩ = some (.int .i64 0) := by rw [hW]; go_simp
            have t4 : W.cell? ⟨wr.heap.size + 1, 1, none⟩ = some (.int .i64 0) := by rw [hW]; go_simp
            have t5 : ∀ o, W.frozen? ⟨wr.heap.size + 1, o, none⟩ = false := fun o => by rw [hW]; go_simp
            have j2 := (HBW.out.cell (p := ⟨w.heap.size, 0, none⟩) q1).trans i2
            have j3 := fun o => (HBW.out.frozen (p := ⟨w.heap.size, o, none⟩) q1).trans (i3 o)
            have j4 := (HBW.out.cell (p := ⟨w1.heap.size, 0, none⟩) q2).trans i4
            have j5 := (HBW.out.cell (p := ⟨w1.heap.size, 1, none⟩) q2).trans i5
            have r1 : w.heap.size < W.heap.size := by omega
            have r2 : w1.heap.size < W.heap.size := by omega
            have r3 : wr.heap.size < W.heap.size := by omega
            have r4 : wr.heap.size + 1 < W.heap.size := by omega
            have x1 : ¬ wr.heap.size = w.heap.size := by omega
            have x2 : ¬ w.heap.size = wr.heap.size := by omega
            have x3 : ¬ wr.heap.size = w1.heap.size := by omega
            have x4 : ¬ w1.heap.size = wr.heap.size := by omega
            have x5 : ¬ wr.heap.size + 1 = w.heap.size := by omega
            have x6 : ¬ w.heap.size = wr.heap.size + 1 := by omega
            have x7 : ¬ w.heap.size = w1.heap.size := by omega
            have x8 : ¬ w1.heap.size = w.heap.size := by omega
            have x9 : ¬ wr.heap.size + 1 = w1.heap.size := by omega
            have x10 : ¬ w1.heap.size = wr.heap.size + 1 := by omega
            clear hW i2 i3 i4 i5 hxc
            go_region_held3 (fun w'' => w''.cell? ⟨w.heap.size, 0, none⟩ = some (.slice (some ⟨g2, 0, none⟩) n n)) (go_keep) (first | (go_at_call 24; refine (hat _).mono ?_; rintro e w' ⟨rfl, hw'⟩; subst hw') | (go_at_call 11; refine (DE.out _ (HS2.out.below HBW.out.drew)).mono ?_; rintro e w4 ⟨rfl, hb4⟩; have hb5 : Below W.heap.size W w4 := (((Below.refl _ W).drew).trans hb4); have m1 := (hb5.cell (p := ⟨w.heap.size, 0, none⟩) r1).trans j2; have m3 := fun o => (hb5.frozen (p := ⟨w.heap.size, o, none⟩) r1).trans (j3 o); have m4 := (hb5.cell (p := ⟨w1.heap.size, 0, none⟩) r2).trans j4; have m5 := (hb5.cell (p := ⟨w1.heap.size, 1, none⟩) r2).trans j5; have m6 := (hb5.cell (p := ⟨wr.heap.size, 0, none⟩) r3).trans t1; have m7 := fun o => (hb5.frozen (p := ⟨wr.heap.size, o, none⟩) r3).trans (t2 o); have m8 := (hb5.cell (p := ⟨wr.heap.size + 1, 0, none⟩) r4).trans t3; have m9 := (hb5.cell (p := ⟨wr.heap.size + 1, 1, none⟩) r4).trans t4; have m10 := fun o => (hb5.frozen (p := ⟨wr.heap.size + 1, o, none⟩) r4).trans (t5 o); have hs4 := hb5.size; have HB4 : Hid (Below W.heap.size W w4) := hb5; clear hb4 hb5))
            clear j2 j3 j4 j5 t1 t2 t3 t4 t5
            go_wp2_with fail
            have HY : Hid (HoldI w w1 w.heap.size w1.heap.size n k hu tag false g2 S2 (((w4.setCell ⟨wr.heap.size, 0, none⟩ (.slice none 0 0)).setCell ⟨wr.heap.size + 1, 0, none⟩ (.int .i64 0)).setCell ⟨wr.heap.size + 1, 1, none⟩ (.int .i64 0))) := by
              refine ⟨?_, ?_, fun o => ?_, ?_, ?_, ?_, HL.out, HW2.out, HH2.out, by simp; omega⟩
              · exact (((HB.out.trans ((HBW.out.trans (HB4.out.mono (by omega))).mono HB.out.size)).setCell (by simp; have := HB.out.size; omega) _).setCell (by simp; have := HB.out.size; omega) _).setCell (by simp; have := HB.out.size; omega) _
              · go_simp
              · go_simp
              · go_simp
              · go_simp
              · exact HS2.out.below ((((HBW.out.trans (HB4.out.mono (by omega))).setCell (by simp) _).setCell (by simp) _).setCell (by simp) _)
            clear m1 m3 m4 m5 m6 m7 m8 m9 m10 HB4
            obtain ⟨k1, k2, k3, k4, k5, k6, k7, k8, k9, k10⟩ := HY.out
            have dc := check_any (some ⟨g2, 0, none⟩) n S2 _ (by have := k8.small; omega) k8.big k6
            rw [(wf_iff _).2 k8, k7] at dc
            refine dc.mono ?_
            rintro e w5 ⟨rfl, hb5⟩
            have HY5 : Hid (HoldI w w1 w.heap.size w1.heap.size n k hu tag false g2 S2 w5) := HoldI.below HY.out hb5
            clear HY k1 k2 k3 k4 k5 k6 k7 k8 k9 k10 dc hb5
            obtain ⟨k1, k2, k3, k4, k5, k6, k7, k8, k9, k10⟩ := HY5.out
            obtain ⟨fz, ft⟩ := k9.find k8
            have df := find_ok (some ⟨g2, 0, none⟩) n S2 k hu w5 (by have := k8.small; omega) k8.big k6 k9.1 fz (by have := k8.kids_small k9.1; omega)
            rw [k7, ft] at df
            have DF : Hid _ := df
            clear df k1 k6 k7 k8 k9 k10 fz ft
            obtain ⟨x4, hx4⟩ : ∃ x, nd S2 k = x := ⟨_, rfl⟩
            rw [hx4] at DF
            clear hx4
            go_wp2_with fail
            refine Calls.mono DF.out ?_
            rintro e w7 ⟨fg, rfl, hb7, _⟩
            have HY7 : Hid (HoldI w w1 w.heap.size w1.heap.size n k hu tag false g2 S2 w7) := HoldI.below HY5.out hb7
            clear k2 k3 k4 k5 hb7 DF HY5
            go_wp2
            go_roundg (M - (j + 1))
            case measure => omega
            case rel => exact ⟨j + 1, false, g2, S2, by omega, by omega, by go_num, rfl, HoldI.below HY7.out ((Below.refl _ _).alloc (Nat.le_refl _) _)⟩
          | true =>
            go_wp2_with fail
            obtain ⟨W, hW⟩ : ∃ W, W = (wr.alloc (Obj.cells #[Value.slice (some ⟨g2, 0, none⟩) n n] 24)).alloc (Obj.cells #[Value.int .i64 0, Value.int .i64 0] 26) := ⟨_, rfl⟩
            rw [← hW]
            have hWs : W.heap.size = wr.heap.size + 1 + 1 := by rw [hW]; simp
            have HBW : Hid (Below wr.heap.size wr W) := by rw [hW]; exact ((Below.refl _ _).alloc (Nat.le_refl _) _).alloc (by simp) _
            have t1 : W.cell? ⟨wr.heap.size, 0, none⟩ = some (.slice (some ⟨g2, 0, none⟩) n n) := by rw [hW]; go_simp
            have t2 : ∀ o, W.frozen? ⟨wr.heap.size, o, none⟩ = false := fun o => by rw [hW]; go_simp
            have t3 : W.cell? ⟨wr.heap.size + 1, 0, none⟩ = some (.int .i64 0) := by rw [hW]; go_simp
            have t4 : W.cell? ⟨wr.heap.size + 1, 1, none⟩ = some (.int .i64 0) := by rw [hW]; go_simp
            have t5 : ∀ o, W.frozen? ⟨wr.heap.size + 1, o, none⟩ = false := fun o => by rw [hW]; go_simp
            have j2 := (HBW.out.cell (p := ⟨w.heap.size, 0, none⟩) q1).trans i2
            have j3 := fun o => (HBW.out.frozen (p := ⟨w.heap.size, o, none⟩) q1).trans (i3 o)
            have j4 := (HBW.out.cell (p := ⟨w1.heap.size, 0, none⟩) q2).trans i4
            have j5 := (HBW.out.cell (p := ⟨w1.heap.size, 1, none⟩) q2).trans i5
            have r1 : w.heap.size < W.heap.size := by omega
            have r2 : w1.heap.size < W.heap.size := by omega
            have r3 : wr.heap.size < W.heap.size := by omega
            have r4 : wr.heap.size + 1 < W.heap.size := by omega
            have x1 : ¬ wr.heap.size = w.heap.size := by omega
            have x2 : ¬ w.heap.size = wr.heap.size := by omega
            have x3 : ¬ wr.heap.size = w1.heap.size := by omega
            have x4 : ¬ w1.heap.size = wr.heap.size := by omega
            have x5 : ¬ wr.heap.size + 1 = w.heap.size := by omega
            have x6 : ¬ w.heap.size = wr.heap.size + 1 := by omega
            have x7 : ¬ w.heap.size = w1.heap.size := by omega
            have x8 : ¬ w1.heap.size = w.heap.size := by omega
            have x9 : ¬ wr.heap.size + 1 = w1.heap.size := by omega
            have x10 : ¬ w1.heap.size = wr.heap.size + 1 := by omega
            clear hW i2 i3 i4 i5 hxc
            go_region_held3 (fun w'' => w''.cell? ⟨w.heap.size, 0, none⟩ = some (.slice (some ⟨g2, 0, none⟩) n n)) (go_keep) (first | (go_at_call 24; refine (hat _).mono ?_; rintro e w' ⟨rfl, hw'⟩; subst hw') | (go_at_call 11; refine (DE.out _ (HS2.out.below HBW.out.drew)).mono ?_; rintro e w4 ⟨rfl, hb4⟩; have hb5 : Below W.heap.size W w4 := (((Below.refl _ W).drew).trans hb4); have m1 := (hb5.cell (p := ⟨w.heap.size, 0, none⟩) r1).trans j2; have m3 := fun o => (hb5.frozen (p := ⟨w.heap.size, o, none⟩) r1).trans (j3 o); have m4 := (hb5.cell (p := ⟨w1.heap.size, 0, none⟩) r2).trans j4; have m5 := (hb5.cell (p := ⟨w1.heap.size, 1, none⟩) r2).trans j5; have m6 := (hb5.cell (p := ⟨wr.heap.size, 0, none⟩) r3).trans t1; have m7 := fun o => (hb5.frozen (p := ⟨wr.heap.size, o, none⟩) r3).trans (t2 o); have m8 := (hb5.cell (p := ⟨wr.heap.size + 1, 0, none⟩) r4).trans t3; have m9 := (hb5.cell (p := ⟨wr.heap.size + 1, 1, none⟩) r4).trans t4; have m10 := fun o => (hb5.frozen (p := ⟨wr.heap.size + 1, o, none⟩) r4).trans (t5 o); have hs4 := hb5.size; have HB4 : Hid (Below W.heap.size W w4) := hb5; clear hb4 hb5))
            clear j2 j3 j4 j5 t1 t2 t3 t4 t5
            go_wp2_with fail
            have HY : Hid (HoldI w w1 w.heap.size w1.heap.size n k hu tag true g2 S2 (((w4.setCell ⟨wr.heap.size, 0, none⟩ (.slice none 0 0)).setCell ⟨wr.heap.size + 1, 0, none⟩ (.int .i64 0)).setCell ⟨wr.heap.size + 1, 1, none⟩ (.int .i64 0))) := by
              refine ⟨?_, ?_, fun o => ?_, ?_, ?_, ?_, HL.out, HW2.out, HH2.out, by simp; omega⟩
              · exact (((HB.out.trans ((HBW.out.trans (HB4.out.mono (by omega))).mono HB.out.size)).setCell (by simp; have := HB.out.size; omega) _).setCell (by simp; have := HB.out.size; omega) _).setCell (by simp; have := HB.out.size; omega) _
              · go_simp
              · go_simp
              · go_simp
              · go_simp
              · exact HS2.out.below ((((HBW.out.trans (HB4.out.mono (by omega))).setCell (by simp) _).setCell (by simp) _).setCell (by simp) _)
            clear m1 m3 m4 m5 m6 m7 m8 m9 m10 HB4
            obtain ⟨k1, k2, k3, k4, k5, k6, k7, k8, k9, k10⟩ := HY.out
            have dc := check_any (some ⟨g2, 0, none⟩) n S2 _ (by have := k8.small; omega) k8.big k6
            rw [(wf_iff _).2 k8, k7] at dc
            refine dc.mono ?_
            rintro e w5 ⟨rfl, hb5⟩
            have HY5 : Hid (HoldI w w1 w.heap.size w1.heap.size n k hu tag true g2 S2 w5) := HoldI.below HY.out hb5
            clear HY k1 k2 k3 k4 k5 k6 k7 k8 k9 k10 dc hb5
            obtain ⟨k1, k2, k3, k4, k5, k6, k7, k8, k9, k10⟩ := HY5.out
            have dh := holds_any (some ⟨g2, 0, none⟩) n S2 k hu w5 (by have := k8.small; omega) k6
            rw [k9.gone, k7] at dh
            have DH : Hid _ := dh
            clear dh k1 k6 k7 k8 k9 k10
            go_wp2_with fail
            refine Calls.mono DH.out ?_
            rintro e w6 ⟨rfl, hb6⟩
            have HY6 : Hid (HoldI w w1 w.heap.size w1.heap.size n k hu tag true g2 S2 w6) := HoldI.below HY5.out hb6
            clear DH k2 k3 k4 k5 hb6
            obtain ⟨k1, k2, k3, k4, k5, k6, k7, k8, k9, k10⟩ := HY6.out
            have df := find_err (some ⟨g2, 0, none⟩) n S2 k hu 5 w6 (by have := k8.small; omega) k8.big k6 (k9.find_gone k8) (by omega)
            rw [k7] at df
            have DF : Hid _ := df
            clear df k1 k6 k7 k8 k9 k10
            go_wp2_with fail
            refine Calls.mono DF.out ?_
            rintro e w7 ⟨rfl, hb7⟩
            have HY7 : Hid (HoldI w w1 w.heap.size w1.heap.size n k hu tag true g2 S2 w7) := HoldI.below HY6.out hb7
            clear k2 k3 k4 k5 hb7 DF HY5 HY6
            go_wp2
            go_roundg (M - (j + 1))
            case measure => omega
            case rel => exact ⟨j + 1, true, g2, S2, by omega, by omega, by go_num, rfl, HoldI.below HY7.out ((Below.refl _ _).alloc (Nat.le_refl _) _)⟩
        · obtain ⟨S3, hS3⟩ : ∃ S3, S2.set kk (madeNd (nd S2 kk) q) = S3 := ⟨_, rfl⟩
          have HW3 : Hid (WF S3) := by rw [← hS3]; exact HW2.out.make hkk hfk (by omega) (by omega)
          have HL3 : Hid (S3.length = n) := by rw [← hS3, List.length_set]; exact HL.out
          have hm := HH2.out.make hkk hfk (q : Int)
          rw [hS3] at hm
          obtain ⟨hm1, hm2⟩ := hm
          have HH3 : Hid (HeldS S3 k hu tag gone) := hm1
          have DE : Hid (∀ W, NdsAt W (some ⟨g2, 0, none⟩) S2 → Calls _ _ _ _ _) := fun W hW => dE (some ⟨g2, 0, none⟩) n W hW
          rw [hS3, HL.out] at DE
          obtain ⟨v, hv⟩ : ∃ v, (nd S2 kk).n + 1 = v := ⟨_, rfl⟩
          rw [hv] at DE hm2
          have hq2 : (¬ (kk : Int) = (k : Int)) ∨ ((kk : Int) = (k : Int) ∧ ¬ v = hu) := by
            by_cases e1 : kk = k
            · exact Or.inr ⟨by omega, fun e2 => hm2 ⟨e1, e2⟩⟩
            · exact Or.inl (by omega)
          clear dE MN hS3 hm1 hm2 hv hkk hfk
          cases gone with
          | false =>
            rcases hq2 with hq2 | ⟨hq1, hq2⟩
            · have hq3 : ((kk : Int) == (k : Int)) = false := by simpa using hq2
              go_wp2_with fail
              obtain ⟨W, hW⟩ : ∃ W, W = (wr.alloc (Obj.cells #[Value.slice (some ⟨g2, 0, none⟩) n n] 24)).alloc (Obj.cells #[Value.int .i64 0, Value.int .i64 0] 26) := ⟨_, rfl⟩
              rw [← hW]
              have hWs : W.heap.size = wr.heap.size + 1 + 1 := by rw [hW]; simp
              have HBW : Hid (Below wr.heap.size wr W) := by rw [hW]; exact ((Below.refl _ _).alloc (Nat.le_refl _) _).alloc (by simp) _
              have t1 : W.cell? ⟨wr.heap.size, 0, none⟩ = some (.slice (some ⟨g2, 0, none⟩) n n) := by rw [hW]; go_simp
              have t2 : ∀ o, W.frozen? ⟨wr.heap.size, o, none⟩ = false := fun o => by rw [hW]; go_simp
              have t3 : W.cell? ⟨wr.heap.size + 1, 0, none⟩ = some (.int .i64 0) := by rw [hW]; go_simp
              have t4 : W.cell? ⟨wr.heap.size + 1, 1, none⟩ = some (.int .i64 0) := by rw [hW]; go_simp
              have t5 : ∀ o, W.frozen? ⟨wr.heap.size + 1, o, none⟩ = false := fun o => by rw [hW]; go_simp
              have j2 := (HBW.out.cell (p := ⟨w.heap.size, 0, none⟩) q1).trans i2
              have j3 := fun o => (HBW.out.frozen (p := ⟨w.heap.size, o, none⟩) q1).trans (i3 o)
              have j4 := (HBW.out.cell (p := ⟨w1.heap.size, 0, none⟩) q2).trans i4
              have j5 := (HBW.out.cell (p := ⟨w1.heap.size, 1, none⟩) q2).trans i5
              have r1 : w.heap.size < W.heap.size := by omega
              have r2 : w1.heap.size < W.heap.size := by omega
              have r3 : wr.heap.size < W.heap.size := by omega
              have r4 : wr.heap.size + 1 < W.heap.size := by omega
              have x1 : ¬ wr.heap.size = w.heap.size := by omega
              have x2 : ¬ w.heap.size = wr.heap.size := by omega
              have x3 : ¬ wr.heap.size = w1.heap.size := by omega
              have x4 : ¬ w1.heap.size = wr.heap.size := by omega
              have x5 : ¬ wr.heap.size + 1 = w.heap.size := by omega
              have x6 : ¬ w.heap.size = wr.heap.size + 1 := by omega
              have x7 : ¬ w.heap.size = w1.heap.size := by omega
              have x8 : ¬ w1.heap.size = w.heap.size := by omega
              have x9 : ¬ wr.heap.size + 1 = w1.heap.size := by omega
              have x10 : ¬ w1.heap.size = wr.heap.size + 1 := by omega
              clear hW i2 i3 i4 i5 hxc
              go_region_held3 (fun w'' => w''.cell? ⟨w.heap.size, 0, none⟩ = some (.slice (some ⟨g2, 0, none⟩) n n)) (go_keep) (first | (go_at_call 24; refine (hat _).mono ?_; rintro e w' ⟨rfl, hw'⟩; subst hw') | (go_at_call 11; refine (DE.out _ (HS2.out.below HBW.out.drew)).mono ?_; rintro e w4 ⟨g4, rfl, hb4, hg4, hup4⟩; have hb5 : Below W.heap.size W w4 := (((Below.refl _ W).drew).trans hb4); have m1 := (hb5.cell (p := ⟨w.heap.size, 0, none⟩) r1).trans j2; have m3 := fun o => (hb5.frozen (p := ⟨w.heap.size, o, none⟩) r1).trans (j3 o); have m4 := (hb5.cell (p := ⟨w1.heap.size, 0, none⟩) r2).trans j4; have m5 := (hb5.cell (p := ⟨w1.heap.size, 1, none⟩) r2).trans j5; have m6 := (hb5.cell (p := ⟨wr.heap.size, 0, none⟩) r3).trans t1; have m7 := fun o => (hb5.frozen (p := ⟨wr.heap.size, o, none⟩) r3).trans (t2 o); have m8 := (hb5.cell (p := ⟨wr.heap.size + 1, 0, none⟩) r4).trans t3; have m9 := (hb5.cell (p := ⟨wr.heap.size + 1, 1, none⟩) r4).trans t4; have m10 := fun o => (hb5.frozen (p := ⟨wr.heap.size + 1, o, none⟩) r4).trans (t5 o); have hs4 := hb5.size; have HB4 : Hid (Below W.heap.size W w4) := hb5; clear hb4 hb5; have HUP : Hid (∀ w3 : World, (∀ b, g4 ≤ b → w3.heap[b]? = w4.heap[b]?) → NdsAt w3 (some ⟨g4, 0, none⟩) S3) := hup4; have hg5 : W.heap.size ≤ g4 := hg4; clear hup4 hg4))
              clear j2 j3 j4 j5 t1 t2 t3 t4 t5
              go_wp2_with fail
              have HY : Hid (HoldI w w1 w.heap.size w1.heap.size n k hu tag false g4 S3 ((((w4.setCell ⟨wr.heap.size, 0, none⟩ (.slice (some ⟨g4, 0, none⟩) n n)).setCell ⟨wr.heap.size + 1, 0, none⟩ (.int .i64 kk)).setCell ⟨wr.heap.size + 1, 1, none⟩ (.int .i64 v)).setCell ⟨w.heap.size, 0, none⟩ (.slice (some ⟨g4, 0, none⟩) n n))) := by
                refine ⟨?_, ?_, fun o => ?_, ?_, ?_, ?_, HL3.out, HW3.out, HH3.out, by simp; omega⟩
                · exact ((((HB.out.trans ((HBW.out.trans (HB4.out.mono (by omega))).mono HB.out.size)).setCell (by simp; have := HB.out.size; omega) _).setCell (by simp; have := HB.out.size; omega) _).setCell (by simp; have := HB.out.size; omega) _).setCell (by simp) _
                · go_simp
                · go_simp
                · go_simp
                · go_simp
                · refine HUP.out _ (fun b hb => ?_)
                  rw [Below.heap_setCell _ _ _ _ (by show b ≠ w.heap.size; omega), Below.heap_setCell _ _ _ _ (by show b ≠ wr.heap.size + 1; omega), Below.heap_setCell _ _ _ _ (by show b ≠ wr.heap.size + 1; omega), Below.heap_setCell _ _ _ _ (by show b ≠ wr.heap.size; omega)]
              clear m1 m3 m4 m5 m6 m7 m8 m9 m10 HB4 HUP
              obtain ⟨k1, k2, k3, k4, k5, k6, k7, k8, k9, k10⟩ := HY.out
              have dc := check_any (some ⟨g4, 0, none⟩) n S3 _ (by have := k8.small; omega) k8.big k6
              rw [(wf_iff _).2 k8, k7] at dc
              refine dc.mono ?_
              rintro e w5 ⟨rfl, hb5⟩
              have HY5 : Hid (HoldI w w1 w.heap.size w1.heap.size n k hu tag false g4 S3 w5) := HoldI.below HY.out hb5
              clear HY k1 k2 k3 k4 k5 k6 k7 k8 k9 k10 dc hb5
              obtain ⟨k1, k2, k3, k4, k5, k6, k7, k8, k9, k10⟩ := HY5.out
              obtain ⟨fz, ft⟩ := k9.find k8
              have df := find_ok (some ⟨g4, 0, none⟩) n S3 k hu w5 (by have := k8.small; omega) k8.big k6 k9.1 fz (by have := k8.kids_small k9.1; omega)
              rw [k7, ft] at df
              have DF : Hid _ := df
              clear df k1 k6 k7 k8 k9 k10 fz ft
              obtain ⟨x4, hx4⟩ : ∃ x, nd S3 k = x := ⟨_, rfl⟩
              rw [hx4] at DF
              clear hx4
              go_wp2_with fail
              refine Calls.mono DF.out ?_
              rintro e w7 ⟨fg, rfl, hb7, _⟩
              have HY7 : Hid (HoldI w w1 w.heap.size w1.heap.size n k hu tag false g4 S3 w7) := HoldI.below HY5.out hb7
              clear k2 k3 k4 k5 hb7 DF HY5
              go_wp2
              go_roundg (M - (j + 1))
              case measure => omega
              case rel => exact ⟨j + 1, false, g4, S3, by omega, by omega, by go_num, rfl, HoldI.below HY7.out ((Below.refl _ _).alloc (Nat.le_refl _) _)⟩
            · have hq3 : (v == hu) = false := by simpa using hq2
              obtain rfl : k = kk := by omega
              clear hq1
              go_wp2_with fail
              obtain ⟨W, hW⟩ : ∃ W, W = (wr.alloc (Obj.cells #[Value.slice (some ⟨g2, 0, none⟩) n n] 24)).alloc (Obj.cells #[Value.int .i64 0, Value.int .i64 0] 26) := ⟨_, rfl⟩
              rw [← hW]
              have hWs : W.heap.size = wr.heap.size + 1 + 1 := by rw [hW]; simp
              have HBW : Hid (Below wr.heap.size wr W) := by rw [hW]; exact ((Below.refl _ _).alloc (Nat.le_refl _) _).alloc (by simp) _
              have t1 : W.cell? ⟨wr.heap.size, 0, none⟩ = some (.slice (some ⟨g2, 0, none⟩) n n) := by rw [hW]; go_simp
              have t2 : ∀ o, W.frozen? ⟨wr.heap.size, o, none⟩ = false := fun o => by rw [hW]; go_simp
              have t3 : W.cell? ⟨wr.heap.size + 1, 0, none⟩ = some (.int .i64 0) := by rw [hW]; go_simp
              have t4 : W.cell? ⟨wr.heap.size + 1, 1, none⟩ = some (.int .i64 0) := by rw [hW]; go_simp
              have t5 : ∀ o, W.frozen? ⟨wr.heap.size + 1, o, none⟩ = false := fun o => by rw [hW]; go_simp
              have j2 := (HBW.out.cell (p := ⟨w.heap.size, 0, none⟩) q1).trans i2
              have j3 := fun o => (HBW.out.frozen (p := ⟨w.heap.size, o, none⟩) q1).trans (i3 o)
              have j4 := (HBW.out.cell (p := ⟨w1.heap.size, 0, none⟩) q2).trans i4
              have j5 := (HBW.out.cell (p := ⟨w1.heap.size, 1, none⟩) q2).trans i5
              have r1 : w.heap.size < W.heap.size := by omega
              have r2 : w1.heap.size < W.heap.size := by omega
              have r3 : wr.heap.size < W.heap.size := by omega
              have r4 : wr.heap.size + 1 < W.heap.size := by omega
              have x1 : ¬ wr.heap.size = w.heap.size := by omega
              have x2 : ¬ w.heap.size = wr.heap.size := by omega
              have x3 : ¬ wr.heap.size = w1.heap.size := by omega
              have x4 : ¬ w1.heap.size = wr.heap.size := by omega
              have x5 : ¬ wr.heap.size + 1 = w.heap.size := by omega
              have x6 : ¬ w.heap.size = wr.heap.size + 1 := by omega
              have x7 : ¬ w.heap.size = w1.heap.size := by omega
              have x8 : ¬ w1.heap.size = w.heap.size := by omega
              have x9 : ¬ wr.heap.size + 1 = w1.heap.size := by omega
              have x10 : ¬ w1.heap.size = wr.heap.size + 1 := by omega
              clear hW i2 i3 i4 i5 hxc
              go_region_held3 (fun w'' => w''.cell? ⟨w.heap.size, 0, none⟩ = some (.slice (some ⟨g2, 0, none⟩) n n)) (go_keep) (first | (go_at_call 24; refine (hat _).mono ?_; rintro e w' ⟨rfl, hw'⟩; subst hw') | (go_at_call 11; refine (DE.out _ (HS2.out.below HBW.out.drew)).mono ?_; rintro e w4 ⟨g4, rfl, hb4, hg4, hup4⟩; have hb5 : Below W.heap.size W w4 := (((Below.refl _ W).drew).trans hb4); have m1 := (hb5.cell (p := ⟨w.heap.size, 0, none⟩) r1).trans j2; have m3 := fun o => (hb5.frozen (p := ⟨w.heap.size, o, none⟩) r1).trans (j3 o); have m4 := (hb5.cell (p := ⟨w1.heap.size, 0, none⟩) r2).trans j4; have m5 := (hb5.cell (p := ⟨w1.heap.size, 1, none⟩) r2).trans j5; have m6 := (hb5.cell (p := ⟨wr.heap.size, 0, none⟩) r3).trans t1; have m7 := fun o => (hb5.frozen (p := ⟨wr.heap.size, o, none⟩) r3).trans (t2 o); have m8 := (hb5.cell (p := ⟨wr.heap.size + 1, 0, none⟩) r4).trans t3; have m9 := (hb5.cell (p := ⟨wr.heap.size + 1, 1, none⟩) r4).trans t4; have m10 := fun o => (hb5.frozen (p := ⟨wr.heap.size + 1, o, none⟩) r4).trans (t5 o); have hs4 := hb5.size; have HB4 : Hid (Below W.heap.size W w4) := hb5; clear hb4 hb5; have HUP : Hid (∀ w3 : World, (∀ b, g4 ≤ b → w3.heap[b]? = w4.heap[b]?) → NdsAt w3 (some ⟨g4, 0, none⟩) S3) := hup4; have hg5 : W.heap.size ≤ g4 := hg4; clear hup4 hg4))
              clear j2 j3 j4 j5 t1 t2 t3 t4 t5
              go_wp2_with fail
              have HY : Hid (HoldI w w1 w.heap.size w1.heap.size n k hu tag false g4 S3 ((((w4.setCell ⟨wr.heap.size, 0, none⟩ (.slice (some ⟨g4, 0, none⟩) n n)).setCell ⟨wr.heap.size + 1, 0, none⟩ (.int .i64 k)).setCell ⟨wr.heap.size + 1, 1, none⟩ (.int .i64 v)).setCell ⟨w.heap.size, 0, none⟩ (.slice (some ⟨g4, 0, none⟩) n n))) := by
                refine ⟨?_, ?_, fun o => ?_, ?_, ?_, ?_, HL3.out, HW3.out, HH3.out, by simp; omega⟩
                · exact ((((HB.out.trans ((HBW.out.trans (HB4.out.mono (by omega))).mono HB.out.size)).setCell (by simp; have := HB.out.size; omega) _).setCell (by simp; have := HB.out.size; omega) _).setCell (by simp; have := HB.out.size; omega) _).setCell (by simp) _
                · go_simp
                · go_simp
                · go_simp
                · go_simp
                · refine HUP.out _ (fun b hb => ?_)
                  rw [Below.heap_setCell _ _ _ _ (by show b ≠ w.heap.size; omega), Below.heap_setCell _ _ _ _ (by show b ≠ wr.heap.size + 1; omega), Below.heap_setCell _ _ _ _ (by show b ≠ wr.heap.size + 1; omega), Below.heap_setCell _ _ _ _ (by show b ≠ wr.heap.size; omega)]
              clear m1 m3 m4 m5 m6 m7 m8 m9 m10 HB4 HUP
              obtain ⟨k1, k2, k3, k4, k5, k6, k7, k8, k9, k10⟩ := HY.out
              have dc := check_any (some ⟨g4, 0, none⟩) n S3 _ (by have := k8.small; omega) k8.big k6
              rw [(wf_iff _).2 k8, k7] at dc
              refine dc.mono ?_
              rintro e w5 ⟨rfl, hb5⟩
              have HY5 : Hid (HoldI w w1 w.heap.size w1.heap.size n k hu tag false g4 S3 w5) := HoldI.below HY.out hb5
              clear HY k1 k2 k3 k4 k5 k6 k7 k8 k9 k10 dc hb5
              obtain ⟨k1, k2, k3, k4, k5, k6, k7, k8, k9, k10⟩ := HY5.out
              obtain ⟨fz, ft⟩ := k9.find k8
              have df := find_ok (some ⟨g4, 0, none⟩) n S3 k hu w5 (by have := k8.small; omega) k8.big k6 k9.1 fz (by have := k8.kids_small k9.1; omega)
              rw [k7, ft] at df
              have DF : Hid _ := df
              clear df k1 k6 k7 k8 k9 k10 fz ft
              obtain ⟨x4, hx4⟩ : ∃ x, nd S3 k = x := ⟨_, rfl⟩
              rw [hx4] at DF
              clear hx4
              go_wp2_with fail
              refine Calls.mono DF.out ?_
              rintro e w7 ⟨fg, rfl, hb7, _⟩
              have HY7 : Hid (HoldI w w1 w.heap.size w1.heap.size n k hu tag false g4 S3 w7) := HoldI.below HY5.out hb7
              clear k2 k3 k4 k5 hb7 DF HY5
              go_wp2
              go_roundg (M - (j + 1))
              case measure => omega
              case rel => exact ⟨j + 1, false, g4, S3, by omega, by omega, by go_num, rfl, HoldI.below HY7.out ((Below.refl _ _).alloc (Nat.le_refl _) _)⟩
          | true =>
            rcases hq2 with hq2 | ⟨hq1, hq2⟩
            · have hq3 : ((kk : Int) == (k : Int)) = false := by simpa using hq2
              go_wp2_with fail
              obtain ⟨W, hW⟩ : ∃ W, W = (wr.alloc (Obj.cells #[Value.slice (some ⟨g2, 0, none⟩) n n] 24)).alloc (Obj.cells #[Value.int .i64 0, Value.int .i64 0] 26) := ⟨_, rfl⟩
              rw [← hW]
              have hWs : W.heap.size = wr.heap.size + 1 + 1 := by rw [hW]; simp
              have HBW : Hid (Below wr.heap.size wr W) := by rw [hW]; exact ((Below.refl _ _).alloc (Nat.le_refl _) _).alloc (by simp) _
              have t1 : W.cell? ⟨wr.heap.size, 0, none⟩ = some (.slice (some ⟨g2, 0, none⟩) n n) := by rw [hW]; go_simp
              have t2 : ∀ o, W.frozen? ⟨wr.heap.size, o, none⟩ = false := fun o => by rw [hW]; go_simp
              have t3 : W.cell? ⟨wr.heap.size + 1, 0, none⟩ = some (.int .i64 0) := by rw [hW]; go_simp
              have t4 : W.cell? ⟨wr.heap.size + 1, 1, none⟩ = some (.int .i64 0) := by rw [hW]; go_simp
              have t5 : ∀ o, W.frozen? ⟨wr.heap.size + 1, o, none⟩ = false := fun o => by rw [hW]; go_simp
              have j2 := (HBW.out.cell (p := ⟨w.heap.size, 0, none⟩) q1).trans i2
              have j3 := fun o => (HBW.out.frozen (p := ⟨w.heap.size, o, none⟩) q1).trans (i3 o)
              have j4 := (HBW.out.cell (p := ⟨w1.heap.size, 0, none⟩) q2).trans i4
              have j5 := (HBW.out.cell (p := ⟨w1.heap.size, 1, none⟩) q2).trans i5
              have r1 : w.heap.size < W.heap.size := by omega
              have r2 : w1.heap.size < W.heap.size := by omega
              have r3 : wr.heap.size < W.heap.size := by omega
              have r4 : wr.heap.size + 1 < W.heap.size := by omega
              have x1 : ¬ wr.heap.size = w.heap.size := by omega
              have x2 : ¬ w.heap.size = wr.heap.size := by omega
              have x3 : ¬ wr.heap.size = w1.heap.size := by omega
              have x4 : ¬ w1.heap.size = wr.heap.size := by omega
              have x5 : ¬ wr.heap.size + 1 = w.heap.size := by omega
              have x6 : ¬ w.heap.size = wr.heap.size + 1 := by omega
              have x7 : ¬ w.heap.size = w1.heap.size := by omega
              have x8 : ¬ w1.heap.size = w.heap.size := by omega
              have x9 : ¬ wr.heap.size + 1 = w1.heap.size := by omega
              have x10 : ¬ w1.heap.size = wr.heap.size + 1 := by omega
              clear hW i2 i3 i4 i5 hxc
              go_region_held3 (fun w'' => w''.cell? ⟨w.heap.size, 0, none⟩ = some (.slice (some ⟨g2, 0, none⟩) n n)) (go_keep) (first | (go_at_call 24; refine (hat _).mono ?_; rintro e w' ⟨rfl, hw'⟩; subst hw') | (go_at_call 11; refine (DE.out _ (HS2.out.below HBW.out.drew)).mono ?_; rintro e w4 ⟨g4, rfl, hb4, hg4, hup4⟩; have hb5 : Below W.heap.size W w4 := (((Below.refl _ W).drew).trans hb4); have m1 := (hb5.cell (p := ⟨w.heap.size, 0, none⟩) r1).trans j2; have m3 := fun o => (hb5.frozen (p := ⟨w.heap.size, o, none⟩) r1).trans (j3 o); have m4 := (hb5.cell (p := ⟨w1.heap.size, 0, none⟩) r2).trans j4; have m5 := (hb5.cell (p := ⟨w1.heap.size, 1, none⟩) r2).trans j5; have m6 := (hb5.cell (p := ⟨wr.heap.size, 0, none⟩) r3).trans t1; have m7 := fun o => (hb5.frozen (p := ⟨wr.heap.size, o, none⟩) r3).trans (t2 o); have m8 := (hb5.cell (p := ⟨wr.heap.size + 1, 0, none⟩) r4).trans t3; have m9 := (hb5.cell (p := ⟨wr.heap.size + 1, 1, none⟩) r4).trans t4; have m10 := fun o => (hb5.frozen (p := ⟨wr.heap.size + 1, o, none⟩) r4).trans (t5 o); have hs4 := hb5.size; have HB4 : Hid (Below W.heap.size W w4) := hb5; clear hb4 hb5; have HUP : Hid (∀ w3 : World, (∀ b, g4 ≤ b → w3.heap[b]? = w4.heap[b]?) → NdsAt w3 (some ⟨g4, 0, none⟩) S3) := hup4; have hg5 : W.heap.size ≤ g4 := hg4; clear hup4 hg4))
              clear j2 j3 j4 j5 t1 t2 t3 t4 t5
              go_wp2_with fail
              have HY : Hid (HoldI w w1 w.heap.size w1.heap.size n k hu tag true g4 S3 ((((w4.setCell ⟨wr.heap.size, 0, none⟩ (.slice (some ⟨g4, 0, none⟩) n n)).setCell ⟨wr.heap.size + 1, 0, none⟩ (.int .i64 kk)).setCell ⟨wr.heap.size + 1, 1, none⟩ (.int .i64 v)).setCell ⟨w.heap.size, 0, none⟩ (.slice (some ⟨g4, 0, none⟩) n n))) := by
                refine ⟨?_, ?_, fun o => ?_, ?_, ?_, ?_, HL3.out, HW3.out, HH3.out, by simp; omega⟩
                · exact ((((HB.out.trans ((HBW.out.trans (HB4.out.mono (by omega))).mono HB.out.size)).setCell (by simp; have := HB.out.size; omega) _).setCell (by simp; have := HB.out.size; omega) _).setCell (by simp; have := HB.out.size; omega) _).setCell (by simp) _
                · go_simp
                · go_simp
                · go_simp
                · go_simp
                · refine HUP.out _ (fun b hb => ?_)
                  rw [Below.heap_setCell _ _ _ _ (by show b ≠ w.heap.size; omega), Below.heap_setCell _ _ _ _ (by show b ≠ wr.heap.size + 1; omega), Below.heap_setCell _ _ _ _ (by show b ≠ wr.heap.size + 1; omega), Below.heap_setCell _ _ _ _ (by show b ≠ wr.heap.size; omega)]
              clear m1 m3 m4 m5 m6 m7 m8 m9 m10 HB4 HUP
              obtain ⟨k1, k2, k3, k4, k5, k6, k7, k8, k9, k10⟩ := HY.out
              have dc := check_any (some ⟨g4, 0, none⟩) n S3 _ (by have := k8.small; omega) k8.big k6
              rw [(wf_iff _).2 k8, k7] at dc
              refine dc.mono ?_
              rintro e w5 ⟨rfl, hb5⟩
              have HY5 : Hid (HoldI w w1 w.heap.size w1.heap.size n k hu tag true g4 S3 w5) := HoldI.below HY.out hb5
              clear HY k1 k2 k3 k4 k5 k6 k7 k8 k9 k10 dc hb5
              obtain ⟨k1, k2, k3, k4, k5, k6, k7, k8, k9, k10⟩ := HY5.out
              have dh := holds_any (some ⟨g4, 0, none⟩) n S3 k hu w5 (by have := k8.small; omega) k6
              rw [k9.gone, k7] at dh
              have DH : Hid _ := dh
              clear dh k1 k6 k7 k8 k9 k10
              go_wp2_with fail
              refine Calls.mono DH.out ?_
              rintro e w6 ⟨rfl, hb6⟩
              have HY6 : Hid (HoldI w w1 w.heap.size w1.heap.size n k hu tag true g4 S3 w6) := HoldI.below HY5.out hb6
              clear DH k2 k3 k4 k5 hb6
              obtain ⟨k1, k2, k3, k4, k5, k6, k7, k8, k9, k10⟩ := HY6.out
              have df := find_err (some ⟨g4, 0, none⟩) n S3 k hu 5 w6 (by have := k8.small; omega) k8.big k6 (k9.find_gone k8) (by omega)
              rw [k7] at df
              have DF : Hid _ := df
              clear df k1 k6 k7 k8 k9 k10
              go_wp2_with fail
              refine Calls.mono DF.out ?_
              rintro e w7 ⟨rfl, hb7⟩
              have HY7 : Hid (HoldI w w1 w.heap.size w1.heap.size n k hu tag true g4 S3 w7) := HoldI.below HY6.out hb7
              clear k2 k3 k4 k5 hb7 DF HY5 HY6
              go_wp2
              go_roundg (M - (j + 1))
              case measure => omega
              case rel => exact ⟨j + 1, true, g4, S3, by omega, by omega, by go_num, rfl, HoldI.below HY7.out ((Below.refl _ _).alloc (Nat.le_refl _) _)⟩
            · have hq3 : (v == hu) = false := by simpa using hq2
              obtain rfl : k = kk := by omega
              clear hq1
              go_wp2_with fail
              obtain ⟨W, hW⟩ : ∃ W, W = (wr.alloc (Obj.cells #[Value.slice (some ⟨g2, 0, none⟩) n n] 24)).alloc (Obj.cells #[Value.int .i64 0, Value.int .i64 0] 26) := ⟨_, rfl⟩
              rw [← hW]
              have hWs : W.heap.size = wr.heap.size + 1 + 1 := by rw [hW]; simp
              have HBW : Hid (Below wr.heap.size wr W) := by rw [hW]; exact ((Below.refl _ _).alloc (Nat.le_refl _) _).alloc (by simp) _
              have t1 : W.cell? ⟨wr.heap.size, 0, none⟩ = some (.slice (some ⟨g2, 0, none⟩) n n) := by rw [hW]; go_simp
              have t2 : ∀ o, W.frozen? ⟨wr.heap.size, o, none⟩ = false := fun o => by rw [hW]; go_simp
              have t3 : W.cell? ⟨wr.heap.size + 1, 0, none⟩ = some (.int .i64 0) := by rw [hW]; go_simp
              have t4 : W.cell? ⟨wr.heap.size + 1, 1, none⟩ = some (.int .i64 0) := by rw [hW]; go_simp
              have t5 : ∀ o, W.frozen? ⟨wr.heap.size + 1, o, none⟩ = false := fun o => by rw [hW]; go_simp
              have j2 := (HBW.out.cell (p := ⟨w.heap.size, 0, none⟩) q1).trans i2
              have j3 := fun o => (HBW.out.frozen (p := ⟨w.heap.size, o, none⟩) q1).trans (i3 o)
              have j4 := (HBW.out.cell (p := ⟨w1.heap.size, 0, none⟩) q2).trans i4
              have j5 := (HBW.out.cell (p := ⟨w1.heap.size, 1, none⟩) q2).trans i5
              have r1 : w.heap.size < W.heap.size := by omega
              have r2 : w1.heap.size < W.heap.size := by omega
              have r3 : wr.heap.size < W.heap.size := by omega
              have r4 : wr.heap.size + 1 < W.heap.size := by omega
              have x1 : ¬ wr.heap.size = w.heap.size := by omega
              have x2 : ¬ w.heap.size = wr.heap.size := by omega
              have x3 : ¬ wr.heap.size = w1.heap.size := by omega
              have x4 : ¬ w1.heap.size = wr.heap.size := by omega
              have x5 : ¬ wr.heap.size + 1 = w.heap.size := by omega
              have x6 : ¬ w.heap.size = wr.heap.size + 1 := by omega
              have x7 : ¬ w.heap.size = w1.heap.size := by omega
              have x8 : ¬ w1.heap.size = w.heap.size := by omega
              have x9 : ¬ wr.heap.size + 1 = w1.heap.size := by omega
              have x10 : ¬ w1.heap.size = wr.heap.size + 1 := by omega
              clear hW i2 i3 i4 i5 hxc
              go_region_held3 (fun w'' => w''.cell? ⟨w.heap.size, 0, none⟩ = some (.slice (some ⟨g2, 0, none⟩) n n)) (go_keep) (first | (go_at_call 24; refine (hat _).mono ?_; rintro e w' ⟨rfl, hw'⟩; subst hw') | (go_at_call 11; refine (DE.out _ (HS2.out.below HBW.out.drew)).mono ?_; rintro e w4 ⟨g4, rfl, hb4, hg4, hup4⟩; have hb5 : Below W.heap.size W w4 := (((Below.refl _ W).drew).trans hb4); have m1 := (hb5.cell (p := ⟨w.heap.size, 0, none⟩) r1).trans j2; have m3 := fun o => (hb5.frozen (p := ⟨w.heap.size, o, none⟩) r1).trans (j3 o); have m4 := (hb5.cell (p := ⟨w1.heap.size, 0, none⟩) r2).trans j4; have m5 := (hb5.cell (p := ⟨w1.heap.size, 1, none⟩) r2).trans j5; have m6 := (hb5.cell (p := ⟨wr.heap.size, 0, none⟩) r3).trans t1; have m7 := fun o => (hb5.frozen (p := ⟨wr.heap.size, o, none⟩) r3).trans (t2 o); have m8 := (hb5.cell (p := ⟨wr.heap.size + 1, 0, none⟩) r4).trans t3; have m9 := (hb5.cell (p := ⟨wr.heap.size + 1, 1, none⟩) r4).trans t4; have m10 := fun o => (hb5.frozen (p := ⟨wr.heap.size + 1, o, none⟩) r4).trans (t5 o); have hs4 := hb5.size; have HB4 : Hid (Below W.heap.size W w4) := hb5; clear hb4 hb5; have HUP : Hid (∀ w3 : World, (∀ b, g4 ≤ b → w3.heap[b]? = w4.heap[b]?) → NdsAt w3 (some ⟨g4, 0, none⟩) S3) := hup4; have hg5 : W.heap.size ≤ g4 := hg4; clear hup4 hg4))
              clear j2 j3 j4 j5 t1 t2 t3 t4 t5
              go_wp2_with fail
              have HY : Hid (HoldI w w1 w.heap.size w1.heap.size n k hu tag true g4 S3 ((((w4.setCell ⟨wr.heap.size, 0, none⟩ (.slice (some ⟨g4, 0, none⟩) n n)).setCell ⟨wr.heap.size + 1, 0, none⟩ (.int .i64 k)).setCell ⟨wr.heap.size + 1, 1, none⟩ (.int .i64 v)).setCell ⟨w.heap.size, 0, none⟩ (.slice (some ⟨g4, 0, none⟩) n n))) := by
                refine ⟨?_, ?_, fun o => ?_, ?_, ?_, ?_, HL3.out, HW3.out, HH3.out, by simp; omega⟩
                · exact ((((HB.out.trans ((HBW.out.trans (HB4.out.mono (by omega))).mono HB.out.size)).setCell (by simp; have := HB.out.size; omega) _).setCell (by simp; have := HB.out.size; omega) _).setCell (by simp; have := HB.out.size; omega) _).setCell (by simp) _
                · go_simp
                · go_simp
                · go_simp
                · go_simp
                · refine HUP.out _ (fun b hb => ?_)
                  rw [Below.heap_setCell _ _ _ _ (by show b ≠ w.heap.size; omega), Below.heap_setCell _ _ _ _ (by show b ≠ wr.heap.size + 1; omega), Below.heap_setCell _ _ _ _ (by show b ≠ wr.heap.size + 1; omega), Below.heap_setCell _ _ _ _ (by show b ≠ wr.heap.size; omega)]
              clear m1 m3 m4 m5 m6 m7 m8 m9 m10 HB4 HUP
              obtain ⟨k1, k2, k3, k4, k5, k6, k7, k8, k9, k10⟩ := HY.out
              have dc := check_any (some ⟨g4, 0, none⟩) n S3 _ (by have := k8.small; omega) k8.big k6
              rw [(wf_iff _).2 k8, k7] at dc
              refine dc.mono ?_
              rintro e w5 ⟨rfl, hb5⟩
              have HY5 : Hid (HoldI w w1 w.heap.size w1.heap.size n k hu tag true g4 S3 w5) := HoldI.below HY.out hb5
              clear HY k1 k2 k3 k4 k5 k6 k7 k8 k9 k10 dc hb5
              obtain ⟨k1, k2, k3, k4, k5, k6, k7, k8, k9, k10⟩ := HY5.out
              have dh := holds_any (some ⟨g4, 0, none⟩) n S3 k hu w5 (by have := k8.small; omega) k6
              rw [k9.gone, k7] at dh
              have DH : Hid _ := dh
              clear dh k1 k6 k7 k8 k9 k10
              go_wp2_with fail
              refine Calls.mono DH.out ?_
              rintro e w6 ⟨rfl, hb6⟩
              have HY6 : Hid (HoldI w w1 w.heap.size w1.heap.size n k hu tag true g4 S3 w6) := HoldI.below HY5.out hb6
              clear DH k2 k3 k4 k5 hb6
              obtain ⟨k1, k2, k3, k4, k5, k6, k7, k8, k9, k10⟩ := HY6.out
              have df := find_err (some ⟨g4, 0, none⟩) n S3 k hu 5 w6 (by have := k8.small; omega) k8.big k6 (k9.find_gone k8) (by omega)
              rw [k7] at df
              have DF : Hid _ := df
              clear df k1 k6 k7 k8 k9 k10
              go_wp2_with fail
              refine Calls.mono DF.out ?_
              rintro e w7 ⟨rfl, hb7⟩
              have HY7 : Hid (HoldI w w1 w.heap.size w1.heap.size n k hu tag true g4 S3 w7) := HoldI.below HY6.out hb7
              clear k2 k3 k4 k5 hb7 DF HY5 HY6
              go_wp2
              go_roundg (M - (j + 1))
              case measure => omega
              case rel => exact ⟨j + 1, true, g4, S3, by omega, by omega, by go_num, rfl, HoldI.below HY7.out ((Below.refl _ _).alloc (Nat.le_refl _) _)⟩
    · have hjM : j = M := by omega
      have HB : Hid (Below w.heap.size w wr) := i1
      have hjl2 : ¬ (j : Int) < (M : Int) := by omega
      clear i1 i2 i3 i4 i5 i6 i7 i8 i9 i10
      go_wp2
      go_ret
      exact ⟨rfl, HB.out⟩
end Go.Proofs.Ytjlapfgghljidaa
