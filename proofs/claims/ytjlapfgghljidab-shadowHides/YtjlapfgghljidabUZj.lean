/-
  ShadowHides: the walks.
-/
import Derived.Test.YtjlapfgghljidabUZiZk
import Derived.Deep.RegionHeld3
import Derived.BigQuiet
namespace Go.Proofs.Ytjlapfgghljidab
open Go.RowKit

set_option maxRecDepth 100000 in
set_option maxHeartbeats 4000000 in
theorem used_anyZj (a : Option Addr) (c : Nat) (S : List Nd) (t : Nat) (w : World) (hS : NdsAt w a S) (ht : t < S.length) (hu : (nd S t).u = true) :
    Calls Try.prog 12 #[.agg #[.slice a S.length c], .int .i64 (t : Int)] w fun e w' => e = .returned (.bool true) ∧ Below w.heap.size w w' := by
  obtain ⟨nb, no, rfl, c0, _⟩ := hS t ht
  rw [hu] at c0
  have hnb := World.block_lt_of_cell? _ _ c0
  have ht2 : (t : Int) < (S.length : Int) := by omega
  have ht3 : (0 : Int) ≤ (t : Int) := by omega
  clear hS hu
  generalize S.length = n at *
  have hb1 : decide ((0 : Int) ≤ (t : Int)) = true := decide_eq_true ht3
  have hb2 : decide ((t : Int) < (n : Int)) = true := decide_eq_true ht2
  have hb3 : decide ((t : Int) < 0) = false := decide_eq_false (by omega)
  go_enter Try.func12, Try.ntmps12
  first
    | (go_wp2; go_ret; exact ⟨rfl, (Below.refl _ _).alloc (Nat.le_refl _) _⟩)
    | (go_wp2_with fail; go_big_quiet (fail); go_wp2; go_ret; first | exact ⟨rfl, (Below.refl _ _).alloc (Nat.le_refl _) _⟩ | exact ⟨rfl, ((Below.refl _ _).alloc (Nat.le_refl _) _).drew⟩)
    | (go_wp2_with fail; go_region; all_goals (try go_wp2); all_goals go_ret; all_goals (first | exact ⟨rfl, (Below.refl _ _).alloc (Nat.le_refl _) _⟩ | exact ⟨rfl, ((Below.refl _ _).alloc (Nat.le_refl _) _).drew⟩))

set_option maxRecDepth 100000 in
set_option maxHeartbeats 4000000 in
theorem closedL_any (a : Option Addr) (c : Nat) (S : List Nd) (x b0 : Nat) (w : World) (hx : x < S.length) (hS : NdsAt w a S) (cs : w.cell? ⟨b0, 0, none⟩ = some (.slice a S.length c)) :
    Calls Try.prog 37 #[.int .i64 (x : Int), .pointer (some ⟨b0, 0, none⟩)] w fun e w' => e = .returned (.bool (nd S x).c) ∧ Below w.heap.size w w' := by
  obtain ⟨nb, no, rfl, _, _, _, _, _, _, _, c7⟩ := hS x hx
  have hx2 : (x : Int) < (S.length : Int) := by omega
  clear hS
  generalize S.length = n at *
  go_enter Try.func37, Try.ntmps37
  go_wp2
  go_ret
  exact ⟨rfl, Below.refl _ _⟩

set_option maxRecDepth 100000 in
set_option maxHeartbeats 4000000 in
theorem hides_bad (V : VeiledOk) (a : Option Addr) (c : Nat) (S : List Nd) (p u q v E : Int) (w : World) (hS : NdsAt w a S) (hE0 : E ≠ 0)
    (D : ∀ W, NdsAt W a S → Calls Try.prog 26 #[.agg #[.slice a S.length c], .agg #[.int .i64 p, .int .i64 u], .agg #[.int .i64 q, .int .i64 v]] W fun e w' => e = .returned (.tuple #[.bool false, .int .i64 E]) ∧ Below W.heap.size W w') :
    Calls Try.prog 7 #[.agg #[.slice a S.length c], .agg #[.int .i64 p, .int .i64 u], .agg #[.int .i64 q, .int .i64 v]] w fun e w' => e = .returned (.bool true) ∧ Below w.heap.size w w' := by
  have HD : Hid _ := D
  have HS : Hid (NdsAt w a S) := hS
  have HV : Hid VeiledOk := V
  have hz0 : (E == 0) = false := by simp [hE0]
  clear hS D V
  generalize S.length = n at *
  go_enter Try.func7, Try.ntmps7
  go_wp2_with fail
  refine Calls.mono (HD.out _ (HS.out.below (three_below _ _ _ _))) ?_
  rintro e w1 ⟨rfl, hb1⟩
  simp only [World.size_alloc] at hb1
  have HB1 : Hid (Below w.heap.size w w1) := (three_below _ _ _ _).trans (hb1.mono (by omega))
  clear hb1
  go_wp2_with fail
  refine Calls.mono (HV.out _) ?_
  rintro e w2 ⟨rfl, hb2⟩
  have HB2 : Hid (Below w.heap.size w w2) := HB1.out.trans (hb2.mono HB1.out.size)
  clear hb2
  go_wp2_with fail
  refine Calls.mono (HV.out _) ?_
  rintro e w3 ⟨rfl, hb3⟩
  have HB3 : Hid (Below w.heap.size w w3) := HB2.out.trans (hb3.mono HB2.out.size)
  clear hb3
  go_wp2
  go_ret
  exact ⟨rfl, HB3.out⟩

set_option maxRecDepth 100000 in
set_option maxHeartbeats 4000000 in
theorem hides_ok (V : VeiledOk) (a : Option Addr) (c : Nat) (S : List Nd) (p q : Nat) (u v : Int) (w : World) (wf : WF S) (hS : NdsAt w a S) (hp : p < S.length) (hq : q < S.length) (hpu : (nd S p).u = true ∧ (nd S p).n = u) (hqu : (nd S q).u = true ∧ (nd S q).n = v) :
    Calls Try.prog 7 #[.agg #[.slice a S.length c], .agg #[.int .i64 (p : Int), .int .i64 u], .agg #[.int .i64 (q : Int), .int .i64 v]] w fun e w' => e = .returned (.bool true) ∧ Below w.heap.size w w' := by
  have fp : findE S p u = 0 := find_zero wf (holds_used hp hpu.1 hpu.2 wf)
  have fq : findE S q v = 0 := find_zero wf (holds_used hq hqu.1 hqu.2 wf)
  obtain ⟨t, t1, t2, t3, t4, t5, t6⟩ := wf.target (p := p) hq hqu.1
  have hN := wf.small
  have DS : Hid (∀ W, NdsAt W a S → Calls _ _ _ _ _) := fun W hW => seen_ok a c S p q u v W wf hW hp hq fp fq
  have DS2 : Hid (∀ W, NdsAt W a S → Calls Try.prog 26 #[.agg #[.slice a S.length c], .agg #[.int .i64 (p : Int), .int .i64 u], .agg #[.int .i64 (t : Int), .int .i64 (nd S t).n]] W fun e w' => e = .returned (.tuple #[.bool true, .int .i64 0]) ∧ Below W.heap.size W w') := fun W hW => by
    have h := seen_ok a c S p t u (nd S t).n W wf hW hp t2 fp (find_here wf t2 t3)
    rw [seen_of_roots t5] at h
    exact h
  have DS3 : Hid (∀ W, NdsAt W a S → Calls Try.prog 26 #[.agg #[.slice a S.length c], .agg #[.int .i64 (q : Int), .int .i64 v], .agg #[.int .i64 (q : Int), .int .i64 v]] W fun e w' => e = .returned (.tuple #[.bool true, .int .i64 0]) ∧ Below W.heap.size W w') := fun W hW => by
    have h := seen_ok a c S q q v v W wf hW hq hq fq fq
    rw [seen_self] at h
    exact h
  have DP : Hid (∀ W, NdsAt W a S → Calls Try.prog 27 #[.agg #[.slice a S.length c], .agg #[.int .i64 (q : Int), .int .i64 v]] W fun e w' => ∃ ra rc, e = .returned (.tuple #[.slice ra (pathF S q).length rc, .int .i64 0]) ∧ Below W.heap.size W w' ∧ IntsAt w' ra (pathF S q)) := fun W hW => by
    refine Calls.mono (path_ok a c S q v W wf hW hq fq) ?_
    rintro e w' ⟨x, rfl, hb, hown⟩
    obtain ⟨ra, rc, hv, hi, _⟩ := own_slice hown
    exact ⟨ra, rc, by rw [hv], hb, hi⟩
  have dt := fun W hW => target_any a c S q p W hN hW hq hp
  rw [t1] at dt
  have DT : Hid _ := dt
  have dt2 := fun W hW => target_any a c S q q W hN hW hq hq
  rw [target_self] at dt2
  have DT2 : Hid _ := dt2
  have DU : Hid (∀ W, NdsAt W a S → Calls _ _ _ _ _) := fun W hW => used_anyZj a c S t W hW t2 t3
  have PL : Hid ((pathF S q).length ≤ 1000) := Nat.le_trans (path_len S q) (by omega)
  have DC : Hid (∀ ra rc W, IntsAt W ra (pathF S q) → Calls Try.prog 11 #[.slice ra (pathF S q).length rc, .int .i64 (t : Int)] W fun e w' => e = .returned (.bool true) ∧ w' = W) := fun ra rc W hW => by
    have h := contains_any ra rc (pathF S q) (t : Int) W (by have := PL.out; omega) hW
    rw [decide_eq_true t4] at h
    exact h
  have DF : Hid (∀ ra rc W, IntsAt W ra (pathF S q) → NdsAt W a S → W.cell? ⟨w.heap.size, 0, none⟩ = some (.slice a S.length c) → Calls Try.prog 22 #[.slice ra (pathF S q).length rc, .func (.func 37) #[] #[.pointer (some ⟨w.heap.size, 0, none⟩)]] W fun e w' => e = .returned (.bool ((pathF S q).any fun x => (nd S x.toNat).c)) ∧ Below W.heap.size W w') := fun ra rc W hI hW hc =>
    containsFunc_in 37 #[.pointer (some ⟨w.heap.size, 0, none⟩)] (fun x => (nd S x.toNat).c) ra rc (pathF S q) W (by have := PL.out; omega) hI (enters_of Try.func37 (by kernel_rfl) rfl) (fun y hy w3 h3 => by
      obtain ⟨x, _, rfl, hx, _⟩ := mem_path hq hy
      rw [Int.toNat_natCast]
      exact closedL_any a c S x w.heap.size w3 hx (hW.below h3) ((h3.cell (World.block_lt_of_cell? _ _ hc)).trans hc))
  have hsc : seenF S p q = true ∨ (seenF S p q = false ∧ ((pathF S q).any fun x => (nd S x.toNat).c) = true ∧ t ≠ q) := by
    cases hsn : seenF S p q with
    | true => exact Or.inl rfl
    | false =>
      refine Or.inr ⟨rfl, ?_, fun e => ?_⟩
      · unfold seenF at hsn
        have h1 : ((rootsF S p q).any fun x => (nd S x.toNat).c) = true := by simpa using hsn
        obtain ⟨x, hx, hxc⟩ := List.any_eq_true.1 h1
        exact List.any_eq_true.2 ⟨x, (mem_roots.1 hx).1, hxc⟩
      · rw [seen_of_roots (t6 e)] at hsn
        cases hsn
  have HS : Hid (NdsAt w a S) := hS
  have HV : Hid VeiledOk := V
  have NU : Hid (∀ W, NdsAt W a S → ∃ b o, a = some ⟨b, o, none⟩ ∧ W.cell? ⟨b, o + t * 8 + 1, none⟩ = some (.int .i64 (nd S t).n)) := fun W hW => by
    obtain ⟨b, o, e, _, c1, _⟩ := hW t t2
    exact ⟨b, o, e, c1⟩
  obtain ⟨cb, hcb⟩ : ∃ b, ((pathF S q).any fun x => (nd S x.toNat).c) = b := ⟨_, rfl⟩
  obtain ⟨sn, hsn⟩ : ∃ b, seenF S p q = b := ⟨_, rfl⟩
  rw [hcb] at DF hsc
  rw [hsn] at DS hsc
  have ht2 : (t : Int) < (S.length : Int) := by omega
  clear hS wf hpu hqu fp fq t1 t3 t4 t5 t6 dt dt2 V hcb hsn
  generalize pathF S q = R at *
  obtain ⟨nt, hnt⟩ : ∃ x, (nd S t).n = x := ⟨_, rfl⟩
  rw [hnt] at DS2 NU
  clear hnt
  generalize S.length = n at *
  obtain ⟨RL, hRL⟩ : ∃ x, R.length = x := ⟨_, rfl⟩
  rw [hRL] at DP DC DF PL
  clear hRL
  rcases hsc with rfl | ⟨rfl, rfl, htq⟩
  · go_enter Try.func7, Try.ntmps7
    go_wp2_with fail
    refine Calls.mono (DS.out _ (HS.out.below (three_below _ _ _ _))) ?_
    rintro e w1 ⟨rfl, hb1⟩
    simp only [World.size_alloc] at hb1
    have H1 : Hid (Below (w.heap.size + 1 + 1 + 1) (((w.alloc (.cells #[.slice a n c] 24)).alloc (.cells #[.int .i64 (p : Int), .int .i64 u] 26)).alloc (.cells #[.int .i64 (q : Int), .int .i64 v] 26)) w1) := hb1
    clear hb1
    go_wp2_with fail
    refine Calls.mono (HV.out _) ?_
    rintro e w2 ⟨rfl, hb2⟩
    have H2 : Hid (Below (w.heap.size + 1 + 1 + 1) (((w.alloc (.cells #[.slice a n c] 24)).alloc (.cells #[.int .i64 (p : Int), .int .i64 u] 26)).alloc (.cells #[.int .i64 (q : Int), .int .i64 v] 26)) w2) := H1.out.trans (hb2.mono (by have := H1.out.size; simp at this; omega))
    clear hb2
    have HB2 : Hid (Below w.heap.size w w2) := (three_below _ _ _ _).trans (H2.out.mono (by omega))
    have hs2 := H2.out.size
    simp only [World.size_alloc] at hs2
    obtain ⟨l0, l1, l2, l3, l4⟩ := seen_low H2.out
    have q0 : w.heap.size < w2.heap.size := by omega
    have q1 : w.heap.size + 1 < w2.heap.size := by omega
    have q2 : w.heap.size + 1 + 1 < w2.heap.size := by omega
    go_wp2_with fail
    refine Calls.mono (DP.out _ (HS.out.below HB2.out)) ?_
    rintro e w3 ⟨ra, rc, rfl, hb3, hI3⟩
    have H3 : Hid (Below (w.heap.size + 1 + 1 + 1) (((w.alloc (.cells #[.slice a n c] 24)).alloc (.cells #[.int .i64 (p : Int), .int .i64 u] 26)).alloc (.cells #[.int .i64 (q : Int), .int .i64 v] 26)) w3) := H2.out.trans (hb3.mono (by have := H2.out.size; simp at this; omega))
    have HI3 : Hid (IntsAt w3 ra R) := hI3
    clear hb3 hI3
    clear l0 l1 l2 l3 l4 q0 q1 q2
    have HB3 : Hid (Below w.heap.size w w3) := (three_below _ _ _ _).trans (H3.out.mono (by omega))
    have hs3 := H3.out.size
    simp only [World.size_alloc] at hs3
    obtain ⟨l0, l1, l2, l3, l4⟩ := seen_low H3.out
    have q0 : w.heap.size < w3.heap.size := by omega
    have q1 : w.heap.size + 1 < w3.heap.size := by omega
    have q2 : w.heap.size + 1 + 1 < w3.heap.size := by omega
    go_wp2_with fail
    refine Calls.mono (DT.out _ (HS.out.below HB3.out)) ?_
    rintro e w4 ⟨rfl, hb4⟩
    have H4 : Hid (Below (w.heap.size + 1 + 1 + 1) (((w.alloc (.cells #[.slice a n c] 24)).alloc (.cells #[.int .i64 (p : Int), .int .i64 u] 26)).alloc (.cells #[.int .i64 (q : Int), .int .i64 v] 26)) w4) := H3.out.trans (hb4.mono (by have := H3.out.size; simp at this; omega))
    have HI4 : Hid (IntsAt w4 ra R) := HI3.out.below hb4
    clear hb4
    clear l0 l1 l2 l3 l4 q0 q1 q2
    have HB4 : Hid (Below w.heap.size w w4) := (three_below _ _ _ _).trans (H4.out.mono (by omega))
    have hs4 := H4.out.size
    simp only [World.size_alloc] at hs4
    obtain ⟨l0, l1, l2, l3, l4⟩ := seen_low H4.out
    have q0 : w.heap.size < w4.heap.size := by omega
    have q1 : w.heap.size + 1 < w4.heap.size := by omega
    have q2 : w.heap.size + 1 + 1 < w4.heap.size := by omega
    go_wp2_with fail
    refine Calls.mono (DU.out _ (HS.out.below HB4.out)) ?_
    rintro e w5 ⟨rfl, hb5⟩
    have H5 : Hid (Below (w.heap.size + 1 + 1 + 1) (((w.alloc (.cells #[.slice a n c] 24)).alloc (.cells #[.int .i64 (p : Int), .int .i64 u] 26)).alloc (.cells #[.int .i64 (q : Int), .int .i64 v] 26)) w5) := H4.out.trans (hb5.mono (by have := H4.out.size; simp at this; omega))
    have HI5 : Hid (IntsAt w5 ra R) := HI4.out.below hb5
    clear hb5
    clear l0 l1 l2 l3 l4 q0 q1 q2
    have HB5 : Hid (Below w.heap.size w w5) := (three_below _ _ _ _).trans (H5.out.mono (by omega))
    have hs5 := H5.out.size
    simp only [World.size_alloc] at hs5
    obtain ⟨l0, l1, l2, l3, l4⟩ := seen_low H5.out
    have q0 : w.heap.size < w5.heap.size := by omega
    have q1 : w.heap.size + 1 < w5.heap.size := by omega
    have q2 : w.heap.size + 1 + 1 < w5.heap.size := by omega
    obtain ⟨nb, no, ea, nc⟩ := NU.out _ (HS.out.below HB5.out)
    subst ea
    have hnb := World.block_lt_of_cell? _ _ nc
    go_wp2_with (go_at_call 11; refine (DC.out ra rc _ HI5.out).mono ?_; rintro e w' ⟨rfl, hw'⟩; have h2 := hw'.symm; clear hw'; subst h2)
    go_region_held3 (fun w'' => w''.cell? ⟨w.heap.size, 0, none⟩ = some (.slice (some ⟨nb, no, none⟩) n c) ∧ w''.cell? ⟨w.heap.size + 1, 0, none⟩ = some (.int .i64 (p : Int)) ∧ w''.cell? ⟨w.heap.size + 1, 1, none⟩ = some (.int .i64 u) ∧ w''.cell? ⟨nb, no + t * 8 + 1, none⟩ = some (.int .i64 nt)) (go_keep) (first | (go_at_call 26; refine (Calls.mono (DS2.out _ (HS.out.below HB5.out.drew)) ?_); rintro e w6 ⟨rfl, hb6⟩; have hb6' : Below w5.heap.size w5 w6 := ((Below.refl _ w5).drew).trans hb6; have H6 : Hid (Below (w.heap.size + 1 + 1 + 1) (((w.alloc (.cells #[.slice (some ⟨nb, no, none⟩) n c] 24)).alloc (.cells #[.int .i64 (p : Int), .int .i64 u] 26)).alloc (.cells #[.int .i64 (q : Int), .int .i64 v] 26)) w6) := H5.out.trans (hb6'.mono hs5); have HI6 : Hid (IntsAt w6 ra R) := HI5.out.below hb6'; have m0 := (hb6'.cell (p := ⟨w.heap.size, 0, none⟩) q0).trans l0; have m1 := (hb6'.cell (p := ⟨w.heap.size + 1, 0, none⟩) q1).trans l1; have m2 := (hb6'.cell (p := ⟨w.heap.size + 1, 1, none⟩) q1).trans l2; have m3 := (hb6'.cell (p := ⟨nb, no + t * 8 + 1, none⟩) hnb).trans nc; clear hb6 hb6'))
    clear m0 m1 m2 m3 nc
    clear l0 l1 l2 l3 l4 q0 q1 q2
    have HB6 : Hid (Below w.heap.size w w6) := (three_below _ _ _ _).trans (H6.out.mono (by omega))
    have hs6 := H6.out.size
    simp only [World.size_alloc] at hs6
    obtain ⟨l0, l1, l2, l3, l4⟩ := seen_low H6.out
    have q0 : w.heap.size < w6.heap.size := by omega
    have q1 : w.heap.size + 1 < w6.heap.size := by omega
    have q2 : w.heap.size + 1 + 1 < w6.heap.size := by omega
    go_wp2_with fail
    refine Calls.mono (DS3.out _ (HS.out.below HB6.out)) ?_
    rintro e w7 ⟨rfl, hb7⟩
    have H7 : Hid (Below (w.heap.size + 1 + 1 + 1) (((w.alloc (.cells #[.slice (some ⟨nb, no, none⟩) n c] 24)).alloc (.cells #[.int .i64 (p : Int), .int .i64 u] 26)).alloc (.cells #[.int .i64 (q : Int), .int .i64 v] 26)) w7) := H6.out.trans (hb7.mono (by have := H6.out.size; simp at this; omega))
    have HI7 : Hid (IntsAt w7 ra R) := HI6.out.below hb7
    clear hb7
    clear l0 l1 l2 l3 l4 q0 q1 q2
    have HB7 : Hid (Below w.heap.size w w7) := (three_below _ _ _ _).trans (H7.out.mono (by omega))
    have hs7 := H7.out.size
    simp only [World.size_alloc] at hs7
    obtain ⟨l0, l1, l2, l3, l4⟩ := seen_low H7.out
    have q0 : w.heap.size < w7.heap.size := by omega
    have q1 : w.heap.size + 1 < w7.heap.size := by omega
    have q2 : w.heap.size + 1 + 1 < w7.heap.size := by omega
    go_wp2_with fail
    go_region_held3 (fun w'' => w''.cell? ⟨w.heap.size, 0, none⟩ = some (.slice (some ⟨nb, no, none⟩) n c) ∧ w''.cell? ⟨w.heap.size + 1 + 1, 0, none⟩ = some (.int .i64 (q : Int))) (go_keep) (first | (go_at_call 34; refine (Calls.mono (DT2.out _ (HS.out.below HB7.out.drew)) ?_); rintro e w8 ⟨rfl, hb8⟩; have hb8' : Below w7.heap.size w7 w8 := ((Below.refl _ w7).drew).trans hb8; have H8 : Hid (Below (w.heap.size + 1 + 1 + 1) (((w.alloc (.cells #[.slice (some ⟨nb, no, none⟩) n c] 24)).alloc (.cells #[.int .i64 (p : Int), .int .i64 u] 26)).alloc (.cells #[.int .i64 (q : Int), .int .i64 v] 26)) w8) := H7.out.trans (hb8'.mono hs7); have HI8 : Hid (IntsAt w8 ra R) := HI7.out.below hb8'; have m0 := (hb8'.cell (p := ⟨w.heap.size, 0, none⟩) q0).trans l0; have m1 := (hb8'.cell (p := ⟨w.heap.size + 1 + 1, 0, none⟩) q2).trans l3; clear hb8 hb8'))
    clear m0 m1
    clear l0 l1 l2 l3 l4 q0 q1 q2
    have HB8 : Hid (Below w.heap.size w w8) := (three_below _ _ _ _).trans (H8.out.mono (by omega))
    have hs8 := H8.out.size
    simp only [World.size_alloc] at hs8
    obtain ⟨l0, l1, l2, l3, l4⟩ := seen_low H8.out
    have q0 : w.heap.size < w8.heap.size := by omega
    have q1 : w.heap.size + 1 < w8.heap.size := by omega
    have q2 : w.heap.size + 1 + 1 < w8.heap.size := by omega
    go_wp2_with fail
    refine Calls.mono (DF.out ra rc _ HI8.out (HS.out.below HB8.out) l0) ?_
    rintro e w9 ⟨rfl, hb9⟩
    have HB9 : Hid (Below w.heap.size w w9) := HB8.out.trans (hb9.mono HB8.out.size)
    clear hb9
    go_wp2
    go_ret
    exact ⟨rfl, HB9.out⟩
  · have htq2 : ((t : Int) == (q : Int)) = false := by simp; omega
    go_enter Try.func7, Try.ntmps7
    go_wp2_with fail
    refine Calls.mono (DS.out _ (HS.out.below (three_below _ _ _ _))) ?_
    rintro e w1 ⟨rfl, hb1⟩
    simp only [World.size_alloc] at hb1
    have H1 : Hid (Below (w.heap.size + 1 + 1 + 1) (((w.alloc (.cells #[.slice a n c] 24)).alloc (.cells #[.int .i64 (p : Int), .int .i64 u] 26)).alloc (.cells #[.int .i64 (q : Int), .int .i64 v] 26)) w1) := hb1
    clear hb1
    go_wp2_with fail
    refine Calls.mono (HV.out _) ?_
    rintro e w2 ⟨rfl, hb2⟩
    have H2 : Hid (Below (w.heap.size + 1 + 1 + 1) (((w.alloc (.cells #[.slice a n c] 24)).alloc (.cells #[.int .i64 (p : Int), .int .i64 u] 26)).alloc (.cells #[.int .i64 (q : Int), .int .i64 v] 26)) w2) := H1.out.trans (hb2.mono (by have := H1.out.size; simp at this; omega))
    clear hb2
    have HB2 : Hid (Below w.heap.size w w2) := (three_below _ _ _ _).trans (H2.out.mono (by omega))
    have hs2 := H2.out.size
    simp only [World.size_alloc] at hs2
    obtain ⟨l0, l1, l2, l3, l4⟩ := seen_low H2.out
    have q0 : w.heap.size < w2.heap.size := by omega
    have q1 : w.heap.size + 1 < w2.heap.size := by omega
    have q2 : w.heap.size + 1 + 1 < w2.heap.size := by omega
    go_wp2_with fail
    refine Calls.mono (DP.out _ (HS.out.below HB2.out)) ?_
    rintro e w3 ⟨ra, rc, rfl, hb3, hI3⟩
    have H3 : Hid (Below (w.heap.size + 1 + 1 + 1) (((w.alloc (.cells #[.slice a n c] 24)).alloc (.cells #[.int .i64 (p : Int), .int .i64 u] 26)).alloc (.cells #[.int .i64 (q : Int), .int .i64 v] 26)) w3) := H2.out.trans (hb3.mono (by have := H2.out.size; simp at this; omega))
    have HI3 : Hid (IntsAt w3 ra R) := hI3
    clear hb3 hI3
    clear l0 l1 l2 l3 l4 q0 q1 q2
    have HB3 : Hid (Below w.heap.size w w3) := (three_below _ _ _ _).trans (H3.out.mono (by omega))
    have hs3 := H3.out.size
    simp only [World.size_alloc] at hs3
    obtain ⟨l0, l1, l2, l3, l4⟩ := seen_low H3.out
    have q0 : w.heap.size < w3.heap.size := by omega
    have q1 : w.heap.size + 1 < w3.heap.size := by omega
    have q2 : w.heap.size + 1 + 1 < w3.heap.size := by omega
    go_wp2_with fail
    refine Calls.mono (DT.out _ (HS.out.below HB3.out)) ?_
    rintro e w4 ⟨rfl, hb4⟩
    have H4 : Hid (Below (w.heap.size + 1 + 1 + 1) (((w.alloc (.cells #[.slice a n c] 24)).alloc (.cells #[.int .i64 (p : Int), .int .i64 u] 26)).alloc (.cells #[.int .i64 (q : Int), .int .i64 v] 26)) w4) := H3.out.trans (hb4.mono (by have := H3.out.size; simp at this; omega))
    have HI4 : Hid (IntsAt w4 ra R) := HI3.out.below hb4
    clear hb4
    clear l0 l1 l2 l3 l4 q0 q1 q2
    have HB4 : Hid (Below w.heap.size w w4) := (three_below _ _ _ _).trans (H4.out.mono (by omega))
    have hs4 := H4.out.size
    simp only [World.size_alloc] at hs4
    obtain ⟨l0, l1, l2, l3, l4⟩ := seen_low H4.out
    have q0 : w.heap.size < w4.heap.size := by omega
    have q1 : w.heap.size + 1 < w4.heap.size := by omega
    have q2 : w.heap.size + 1 + 1 < w4.heap.size := by omega
    go_wp2_with fail
    refine Calls.mono (DU.out _ (HS.out.below HB4.out)) ?_
    rintro e w5 ⟨rfl, hb5⟩
    have H5 : Hid (Below (w.heap.size + 1 + 1 + 1) (((w.alloc (.cells #[.slice a n c] 24)).alloc (.cells #[.int .i64 (p : Int), .int .i64 u] 26)).alloc (.cells #[.int .i64 (q : Int), .int .i64 v] 26)) w5) := H4.out.trans (hb5.mono (by have := H4.out.size; simp at this; omega))
    have HI5 : Hid (IntsAt w5 ra R) := HI4.out.below hb5
    clear hb5
    clear l0 l1 l2 l3 l4 q0 q1 q2
    have HB5 : Hid (Below w.heap.size w w5) := (three_below _ _ _ _).trans (H5.out.mono (by omega))
    have hs5 := H5.out.size
    simp only [World.size_alloc] at hs5
    obtain ⟨l0, l1, l2, l3, l4⟩ := seen_low H5.out
    have q0 : w.heap.size < w5.heap.size := by omega
    have q1 : w.heap.size + 1 < w5.heap.size := by omega
    have q2 : w.heap.size + 1 + 1 < w5.heap.size := by omega
    obtain ⟨nb, no, ea, nc⟩ := NU.out _ (HS.out.below HB5.out)
    subst ea
    have hnb := World.block_lt_of_cell? _ _ nc
    go_wp2_with (go_at_call 11; refine (DC.out ra rc _ HI5.out).mono ?_; rintro e w' ⟨rfl, hw'⟩; have h2 := hw'.symm; clear hw'; subst h2)
    go_region_held3 (fun w'' => w''.cell? ⟨w.heap.size, 0, none⟩ = some (.slice (some ⟨nb, no, none⟩) n c) ∧ w''.cell? ⟨w.heap.size + 1, 0, none⟩ = some (.int .i64 (p : Int)) ∧ w''.cell? ⟨w.heap.size + 1, 1, none⟩ = some (.int .i64 u) ∧ w''.cell? ⟨nb, no + t * 8 + 1, none⟩ = some (.int .i64 nt)) (go_keep) (first | (go_at_call 26; refine (Calls.mono (DS2.out _ (HS.out.below HB5.out.drew)) ?_); rintro e w6 ⟨rfl, hb6⟩; have hb6' : Below w5.heap.size w5 w6 := ((Below.refl _ w5).drew).trans hb6; have H6 : Hid (Below (w.heap.size + 1 + 1 + 1) (((w.alloc (.cells #[.slice (some ⟨nb, no, none⟩) n c] 24)).alloc (.cells #[.int .i64 (p : Int), .int .i64 u] 26)).alloc (.cells #[.int .i64 (q : Int), .int .i64 v] 26)) w6) := H5.out.trans (hb6'.mono hs5); have HI6 : Hid (IntsAt w6 ra R) := HI5.out.below hb6'; have m0 := (hb6'.cell (p := ⟨w.heap.size, 0, none⟩) q0).trans l0; have m1 := (hb6'.cell (p := ⟨w.heap.size + 1, 0, none⟩) q1).trans l1; have m2 := (hb6'.cell (p := ⟨w.heap.size + 1, 1, none⟩) q1).trans l2; have m3 := (hb6'.cell (p := ⟨nb, no + t * 8 + 1, none⟩) hnb).trans nc; clear hb6 hb6'))
    clear m0 m1 m2 m3 nc
    clear l0 l1 l2 l3 l4 q0 q1 q2
    have HB6 : Hid (Below w.heap.size w w6) := (three_below _ _ _ _).trans (H6.out.mono (by omega))
    have hs6 := H6.out.size
    simp only [World.size_alloc] at hs6
    obtain ⟨l0, l1, l2, l3, l4⟩ := seen_low H6.out
    have q0 : w.heap.size < w6.heap.size := by omega
    have q1 : w.heap.size + 1 < w6.heap.size := by omega
    have q2 : w.heap.size + 1 + 1 < w6.heap.size := by omega
    go_wp2_with fail
    refine Calls.mono (DS3.out _ (HS.out.below HB6.out)) ?_
    rintro e w7 ⟨rfl, hb7⟩
    have H7 : Hid (Below (w.heap.size + 1 + 1 + 1) (((w.alloc (.cells #[.slice (some ⟨nb, no, none⟩) n c] 24)).alloc (.cells #[.int .i64 (p : Int), .int .i64 u] 26)).alloc (.cells #[.int .i64 (q : Int), .int .i64 v] 26)) w7) := H6.out.trans (hb7.mono (by have := H6.out.size; simp at this; omega))
    have HI7 : Hid (IntsAt w7 ra R) := HI6.out.below hb7
    clear hb7
    clear l0 l1 l2 l3 l4 q0 q1 q2
    have HB7 : Hid (Below w.heap.size w w7) := (three_below _ _ _ _).trans (H7.out.mono (by omega))
    have hs7 := H7.out.size
    simp only [World.size_alloc] at hs7
    obtain ⟨l0, l1, l2, l3, l4⟩ := seen_low H7.out
    have q0 : w.heap.size < w7.heap.size := by omega
    have q1 : w.heap.size + 1 < w7.heap.size := by omega
    have q2 : w.heap.size + 1 + 1 < w7.heap.size := by omega
    go_wp2_with fail
    go_region_held3 (fun w'' => w''.cell? ⟨w.heap.size, 0, none⟩ = some (.slice (some ⟨nb, no, none⟩) n c) ∧ w''.cell? ⟨w.heap.size + 1 + 1, 0, none⟩ = some (.int .i64 (q : Int))) (go_keep) (first | (go_at_call 34; refine (Calls.mono (DT2.out _ (HS.out.below HB7.out.drew)) ?_); rintro e w8 ⟨rfl, hb8⟩; have hb8' : Below w7.heap.size w7 w8 := ((Below.refl _ w7).drew).trans hb8; have H8 : Hid (Below (w.heap.size + 1 + 1 + 1) (((w.alloc (.cells #[.slice (some ⟨nb, no, none⟩) n c] 24)).alloc (.cells #[.int .i64 (p : Int), .int .i64 u] 26)).alloc (.cells #[.int .i64 (q : Int), .int .i64 v] 26)) w8) := H7.out.trans (hb8'.mono hs7); have HI8 : Hid (IntsAt w8 ra R) := HI7.out.below hb8'; have m0 := (hb8'.cell (p := ⟨w.heap.size, 0, none⟩) q0).trans l0; have m1 := (hb8'.cell (p := ⟨w.heap.size + 1 + 1, 0, none⟩) q2).trans l3; clear hb8 hb8'))
    clear m0 m1
    clear l0 l1 l2 l3 l4 q0 q1 q2
    have HB8 : Hid (Below w.heap.size w w8) := (three_below _ _ _ _).trans (H8.out.mono (by omega))
    have hs8 := H8.out.size
    simp only [World.size_alloc] at hs8
    obtain ⟨l0, l1, l2, l3, l4⟩ := seen_low H8.out
    have q0 : w.heap.size < w8.heap.size := by omega
    have q1 : w.heap.size + 1 < w8.heap.size := by omega
    have q2 : w.heap.size + 1 + 1 < w8.heap.size := by omega
    go_wp2_with fail
    refine Calls.mono (DF.out ra rc _ HI8.out (HS.out.below HB8.out) l0) ?_
    rintro e w9 ⟨rfl, hb9⟩
    have HB9 : Hid (Below w.heap.size w w9) := HB8.out.trans (hb9.mono HB8.out.size)
    clear hb9
    go_wp2
    go_ret
    exact ⟨rfl, HB9.out⟩

end Go.Proofs.Ytjlapfgghljidab
