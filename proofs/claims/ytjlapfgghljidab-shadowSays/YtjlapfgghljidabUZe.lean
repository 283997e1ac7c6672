/-
  The contracts of Seen, Target and Path.
-/
import Derived.Test.YtjlapfgghljidabUZd
namespace Go.Proofs.Ytjlapfgghljidab
open Go.RowKit

set_option maxHeartbeats 400000 in
theorem containsFunc_in (K : Nat) (caps : Array Value) (p : Int → Bool) (a : Option Addr) (c : Nat) (ks : List Int) (w : World) (hbig : ks.length ≤ 9223372036854775807) (hks : IntsAt w a ks)
    (eg : ∀ args w, (callFunc K args).run Try.prog w = .ok (.enter K args) w) (hf : ∀ x ∈ ks, ∀ w1, Below w.heap.size w w1 → Calls Try.prog K (#[.int .i64 x] ++ caps) w1 fun e w2 => e = .returned (.bool (p x)) ∧ Below w1.heap.size w1 w2) :
    Calls Try.prog 22 #[.slice a ks.length c, .func (.func K) #[] caps] w fun e w' => e = .returned (.bool (ks.any p)) ∧ Below w.heap.size w w' := by
  have h := indexFunc_in K caps p a c ks w hbig hks eg hf
  have any_of : ∀ k, k < ks.length → p (ks.getD k 0) = true → ks.any p = true := fun k hk hp => List.any_eq_true.2 ⟨ks.getD k 0, by rw [getD_elem _ _ hk]; exact List.getElem_mem hk, hp⟩
  have none_of : (∀ i, i < ks.length → p (ks.getD i 0) = false) → ks.any p = false := fun H => by
    rw [List.any_eq_false]
    intro x hx
    obtain ⟨i, hi, rfl⟩ := List.getElem_of_mem hx
    have := H i hi
    rw [getD_elem _ _ hi] at this
    simp [this]
  have H : Hid _ := any_of
  have N : Hid _ := none_of
  clear any_of none_of hks hf
  go_enter Try.func22, Try.ntmps22
  go_wp2_with (go_at_call 52; refine h.mono ?_; rintro e w' ⟨r, rfl, hb, hr⟩)
  go_ret
  refine ⟨?_, hb⟩
  rcases hr with ⟨rfl, hall⟩ | ⟨k, hk, rfl, hp, _⟩
  · rw [N.out hall]; rfl
  · rw [H.out k hk hp]
    simp

theorem closed1_any (a : Option Addr) (c : Nat) (S : List Nd) (x b0 : Nat) (w : World) (hx : x < S.length) (hS : NdsAt w a S) (cs : w.cell? ⟨b0, 0, none⟩ = some (.slice a S.length c)) :
    Calls Try.prog 56 #[.int .i64 (x : Int), .pointer (some ⟨b0, 0, none⟩)] w fun e w' => e = .returned (.bool (nd S x).c) ∧ Below w.heap.size w w' := by
  obtain ⟨nb, no, rfl, _, _, _, _, _, _, _, c7⟩ := hS x hx
  have hx2 : (x : Int) < (S.length : Int) := by omega
  clear hS
  generalize S.length = n at *
  go_enter Try.func56, Try.ntmps56
  go_wp2
  go_ret
  exact ⟨rfl, Below.refl _ _⟩

theorem roots_place {S : List Nd} {p q : Nat} (hq : q < S.length) {y : Int} (hy : y ∈ rootsF S p q) : ∃ x : Nat, y = x ∧ x < S.length := by
  obtain ⟨x, _, e1, e2, _⟩ := mem_path hq (mem_roots.1 hy).1
  exact ⟨x, e1, e2⟩

theorem roots_len {S : List Nd} {p q : Nat} : (rootsF S p q).length ≤ S.length + 1 := Nat.le_trans (flt_le _ _) (path_len S q)

theorem seen_low {w w1 : World} {a : Option Addr} {n c : Nat} {p u q v : Int} (hb : Below (w.heap.size + 1 + 1 + 1) (((w.alloc (.cells #[.slice a n c] 24)).alloc (.cells #[.int .i64 p, .int .i64 u] 26)).alloc (.cells #[.int .i64 q, .int .i64 v] 26)) w1) :
    w1.cell? ⟨w.heap.size, 0, none⟩ = some (.slice a n c) ∧ w1.cell? ⟨w.heap.size + 1, 0, none⟩ = some (.int .i64 p) ∧ w1.cell? ⟨w.heap.size + 1, 1, none⟩ = some (.int .i64 u) ∧ w1.cell? ⟨w.heap.size + 1 + 1, 0, none⟩ = some (.int .i64 q) ∧ w1.cell? ⟨w.heap.size + 1 + 1, 1, none⟩ = some (.int .i64 v) := by
  refine ⟨?_, ?_, ?_, ?_, ?_⟩
  all_goals exact (hb.cell (by first | (simp; done) | (simp; omega))).trans (by go_simp)

set_option maxRecDepth 100000 in
set_option maxHeartbeats 2000000 in
theorem seen_err1 (a : Option Addr) (c : Nat) (S : List Nd) (p u q v E : Int) (w : World) (hN : S.length ≤ 9223372036854775807) (hB : Big S) (hS : NdsAt w a S) (hE : findE S p u = E) (hE0 : E ≠ 0) :
    Calls Try.prog 26 #[.agg #[.slice a S.length c], .agg #[.int .i64 p, .int .i64 u], .agg #[.int .i64 q, .int .i64 v]] w fun e w' => e = .returned (.tuple #[.bool false, .int .i64 E]) ∧ Below w.heap.size w w' := by
  have ix0 : ∀ w : World, (Instr.index 78 (.agg #[.int .i64 p, .int .i64 u, .int .i64 q, .int .i64 v]) (.int .i64 0)).run Try.prog w = .ok (.agg #[.int .i64 p, .int .i64 u]) w := fun _ => by kernel_rfl
  have ix1 : ∀ w : World, (Instr.index 78 (.agg #[.int .i64 p, .int .i64 u, .int .i64 q, .int .i64 v]) (.int .i64 1)).run Try.prog w = .ok (.agg #[.int .i64 q, .int .i64 v]) w := fun _ => by kernel_rfl
  have D1 : Hid (∀ W, NdsAt W a S → Calls _ _ _ _ _) := fun W hW => find_err a c S p u E W hN hB hW hE hE0
  have HS : Hid (NdsAt w a S) := hS
  have hz0 : (E == 0) = false := by simp [hE0]
  clear hS hE hB hN
  generalize S.length = n at *
  go_enter Try.func26, Try.ntmps26
  go_wp2_with fail
  go_loopg [16] 2 (fun g s16 wr => ∃ k : Nat, k ≤ 0 ∧ 2 - k ≤ g ∧ s16 = .int .i64 k ∧ Hid (Below (w.heap.size + 1 + 1 + 1) (((w.alloc (.cells #[.slice a n c] 24)).alloc (.cells #[.int .i64 p, .int .i64 u] 26)).alloc (.cells #[.int .i64 q, .int .i64 v] 26)) wr))
  case atStart => exact ⟨0, by omega, by omega, rfl, (show Below _ _ _ by simpa using Below.refl _ _)⟩
  case round =>
    obtain ⟨k, hk, hg, rfl, HB0⟩ := hrel
    have hz := HB0.out.size
    simp only [World.size_alloc] at hz
    have HB : Hid (Below w.heap.size w wr) := (three_below _ _ _ _).trans (HB0.out.mono (by omega))
    obtain ⟨l0, l1, l2, l3, l4⟩ := seen_low HB0.out
    have q0 : w.heap.size < wr.heap.size := by omega
    obtain rfl : k = 0 := by omega
    go_wp2_with fail
    refine Calls.mono (D1.out _ (HS.out.below (HB.out.alloc HB.out.size _))) ?_
    rintro e w2 ⟨rfl, hb2⟩
    simp only [World.size_alloc] at hb2
    have HB2 : Hid (Below w.heap.size w w2) := (HB.out.alloc HB.out.size _).trans (hb2.mono (by omega))
    clear hb2
    go_wp2
    refine bodyPost_ret (v := .tuple #[.bool false, .int .i64 E]) (by simp [results, Try.results26, go_sem]) rfl ⟨rfl, ?_⟩
    exact HB2.out.alloc HB2.out.size _

set_option maxRecDepth 100000 in
set_option maxHeartbeats 2000000 in
theorem seen_err2 (a : Option Addr) (c : Nat) (S : List Nd) (p : Nat) (u q v E : Int) (w : World) (hN : S.length ≤ 9223372036854775807) (hB : Big S) (hS : NdsAt w a S) (hp : p < S.length) (hp0 : findE S p u = 0) (hK : (nd S p).ks.length ≤ 1000000) (hE : findE S q v = E) (hE0 : E ≠ 0) :
    Calls Try.prog 26 #[.agg #[.slice a S.length c], .agg #[.int .i64 (p : Int), .int .i64 u], .agg #[.int .i64 q, .int .i64 v]] w fun e w' => e = .returned (.tuple #[.bool false, .int .i64 E]) ∧ Below w.heap.size w w' := by
  have ix0 : ∀ w : World, (Instr.index 78 (.agg #[.int .i64 (p : Int), .int .i64 u, .int .i64 q, .int .i64 v]) (.int .i64 0)).run Try.prog w = .ok (.agg #[.int .i64 (p : Int), .int .i64 u]) w := fun _ => by kernel_rfl
  have ix1 : ∀ w : World, (Instr.index 78 (.agg #[.int .i64 (p : Int), .int .i64 u, .int .i64 q, .int .i64 v]) (.int .i64 1)).run Try.prog w = .ok (.agg #[.int .i64 q, .int .i64 v]) w := fun _ => by kernel_rfl
  have D0 : Hid (∀ W, NdsAt W a S → Calls _ _ _ _ _) := fun W hW => find_ok a c S p u W hN hB hW hp hp0 hK
  have D1 : Hid (∀ W, NdsAt W a S → Calls _ _ _ _ _) := fun W hW => find_err a c S q v E W hN hB hW hE hE0
  have HS : Hid (NdsAt w a S) := hS
  have hz0 : (E == 0) = false := by simp [hE0]
  clear hS hE hB hN hp0 hK
  generalize nd S p = x0 at *
  generalize S.length = n at *
  go_enter Try.func26, Try.ntmps26
  go_wp2_with fail
  go_loopg [16] 2 (fun g s16 wr => ∃ k : Nat, k ≤ 1 ∧ 2 - k ≤ g ∧ s16 = .int .i64 k ∧ Hid (Below (w.heap.size + 1 + 1 + 1) (((w.alloc (.cells #[.slice a n c] 24)).alloc (.cells #[.int .i64 (p : Int), .int .i64 u] 26)).alloc (.cells #[.int .i64 q, .int .i64 v] 26)) wr))
  case atStart => exact ⟨0, by omega, by omega, rfl, (show Below _ _ _ by simpa using Below.refl _ _)⟩
  case round =>
    obtain ⟨k, hk, hg, rfl, HB0⟩ := hrel
    have hz := HB0.out.size
    simp only [World.size_alloc] at hz
    have HB : Hid (Below w.heap.size w wr) := (three_below _ _ _ _).trans (HB0.out.mono (by omega))
    obtain ⟨l0, l1, l2, l3, l4⟩ := seen_low HB0.out
    have q0 : w.heap.size < wr.heap.size := by omega
    obtain rfl | rfl : k = 0 ∨ k = 1 := by omega
    · go_wp2_with fail
      refine Calls.mono (D0.out _ (HS.out.below (HB.out.alloc HB.out.size _))) ?_
      rintro e w2 ⟨fg, rfl, hb2, _⟩
      simp only [World.size_alloc] at hb2
      have HB2 : Hid (Below (w.heap.size + 1 + 1 + 1) (((w.alloc (.cells #[.slice a n c] 24)).alloc (.cells #[.int .i64 (p : Int), .int .i64 u] 26)).alloc (.cells #[.int .i64 q, .int .i64 v] 26)) w2) := (HB0.out.alloc (by omega) _).trans (hb2.mono (by omega))
      clear hb2 l0 l1 l2 l3 l4
      obtain ⟨l0, l1, l2, l3, l4⟩ := seen_low HB2.out
      go_wp2
      go_roundg 1
      case measure => omega
      case rel => exact ⟨1, by omega, by omega, by go_num, HB2.out.alloc (by have := HB2.out.size; simp at this; omega) _⟩
    · go_wp2_with fail
      refine Calls.mono (D1.out _ (HS.out.below (HB.out.alloc HB.out.size _))) ?_
      rintro e w2 ⟨rfl, hb2⟩
      simp only [World.size_alloc] at hb2
      have HB2 : Hid (Below w.heap.size w w2) := (HB.out.alloc HB.out.size _).trans (hb2.mono (by omega))
      clear hb2
      go_wp2
      refine bodyPost_ret (v := .tuple #[.bool false, .int .i64 E]) (by simp [results, Try.results26, go_sem]) rfl ⟨rfl, ?_⟩
      exact HB2.out.alloc HB2.out.size _

set_option maxRecDepth 100000 in
set_option maxHeartbeats 4000000 in
theorem seen_ok (a : Option Addr) (c : Nat) (S : List Nd) (p q : Nat) (u v : Int) (w : World) (wf : WF S) (hS : NdsAt w a S) (hp : p < S.length) (hq : q < S.length) (hp0 : findE S p u = 0) (hq0 : findE S q v = 0) :
    Calls Try.prog 26 #[.agg #[.slice a S.length c], .agg #[.int .i64 (p : Int), .int .i64 u], .agg #[.int .i64 (q : Int), .int .i64 v]] w fun e w' => e = .returned (.tuple #[.bool (seenF S p q), .int .i64 0]) ∧ Below w.heap.size w w' := by
  have ix0 : ∀ w : World, (Instr.index 78 (.agg #[.int .i64 (p : Int), .int .i64 u, .int .i64 (q : Int), .int .i64 v]) (.int .i64 0)).run Try.prog w = .ok (.agg #[.int .i64 (p : Int), .int .i64 u]) w := fun _ => by kernel_rfl
  have ix1 : ∀ w : World, (Instr.index 78 (.agg #[.int .i64 (p : Int), .int .i64 u, .int .i64 (q : Int), .int .i64 v]) (.int .i64 1)).run Try.prog w = .ok (.agg #[.int .i64 (q : Int), .int .i64 v]) w := fun _ => by kernel_rfl
  have hN := wf.small
  have D0 : Hid (∀ W, NdsAt W a S → Calls _ _ _ _ _) := fun W hW => find_ok a c S p u W (by omega) wf.big hW hp hp0 (by have := wf.kids_small hp; omega)
  have D1 : Hid (∀ W, NdsAt W a S → Calls _ _ _ _ _) := fun W hW => find_ok a c S q v W (by omega) wf.big hW hq hq0 (by have := wf.kids_small hq; omega)
  have DR : Hid (∀ W, NdsAt W a S → Calls _ _ _ _ _) := fun W hW => rootsBetween_any a c S p q W hN hp hq hW
  have DC : Hid (∀ (x : Nat) W, x < S.length → NdsAt W a S → W.cell? ⟨w.heap.size, 0, none⟩ = some (.slice a S.length c) → Calls _ _ _ _ _) := fun x W h1 h2 h3 => closed1_any a c S x w.heap.size W h1 h2 h3
  have RP : Hid (∀ y ∈ rootsF S p q, ∃ x : Nat, y = x ∧ x < S.length) := fun y hy => roots_place hq hy
  have RL : Hid ((rootsF S p q).length ≤ 1000) := Nat.le_trans roots_len (by omega)
  have SF : Hid (seenF S p q = !((rootsF S p q).any fun x => (nd S x.toNat).c)) := rfl
  have HS : Hid (NdsAt w a S) := hS
  clear hS wf hp0 hq0
  obtain ⟨x0, hx0⟩ : ∃ x, nd S p = x := ⟨_, rfl⟩
  obtain ⟨x1, hx1⟩ : ∃ x, nd S q = x := ⟨_, rfl⟩
  rw [hx0] at D0
  rw [hx1] at D1
  clear hx0 hx1
  generalize rootsF S p q = R at *
  generalize seenF S p q = B at *
  generalize S.length = n at *
  go_enter Try.func26, Try.ntmps26
  go_wp2_with fail
  go_loopg [16] 2 (fun g s16 wr => ∃ k : Nat, k ≤ 2 ∧ 2 - k ≤ g ∧ s16 = .int .i64 k ∧ Hid (Below (w.heap.size + 1 + 1 + 1) (((w.alloc (.cells #[.slice a n c] 24)).alloc (.cells #[.int .i64 (p : Int), .int .i64 u] 26)).alloc (.cells #[.int .i64 (q : Int), .int .i64 v] 26)) wr))
  case atStart => exact ⟨0, by omega, by omega, rfl, (show Below _ _ _ by simpa using Below.refl _ _)⟩
  case round =>
    obtain ⟨k, hk, hg, rfl, HB0⟩ := hrel
    have hz := HB0.out.size
    simp only [World.size_alloc] at hz
    have HB : Hid (Below w.heap.size w wr) := (three_below _ _ _ _).trans (HB0.out.mono (by omega))
    obtain ⟨l0, l1, l2, l3, l4⟩ := seen_low HB0.out
    have q0 : w.heap.size < wr.heap.size := by omega
    obtain rfl | rfl | rfl : k = 0 ∨ k = 1 ∨ k = 2 := by omega
    · go_wp2_with fail
      refine Calls.mono (D0.out _ (HS.out.below (HB.out.alloc HB.out.size _))) ?_
      rintro e w2 ⟨fg, rfl, hb2, _⟩
      simp only [World.size_alloc] at hb2
      have HB2 : Hid (Below (w.heap.size + 1 + 1 + 1) (((w.alloc (.cells #[.slice a n c] 24)).alloc (.cells #[.int .i64 (p : Int), .int .i64 u] 26)).alloc (.cells #[.int .i64 (q : Int), .int .i64 v] 26)) w2) := (HB0.out.alloc (by omega) _).trans (hb2.mono (by omega))
      clear hb2 l0 l1 l2 l3 l4
      obtain ⟨l0, l1, l2, l3, l4⟩ := seen_low HB2.out
      go_wp2
      go_roundg 1
      case measure => omega
      case rel => exact ⟨1, by omega, by omega, by go_num, HB2.out.alloc (by have := HB2.out.size; simp at this; omega) _⟩
    · go_wp2_with fail
      refine Calls.mono (D1.out _ (HS.out.below (HB.out.alloc HB.out.size _))) ?_
      rintro e w2 ⟨fg, rfl, hb2, _⟩
      simp only [World.size_alloc] at hb2
      have HB2 : Hid (Below (w.heap.size + 1 + 1 + 1) (((w.alloc (.cells #[.slice a n c] 24)).alloc (.cells #[.int .i64 (p : Int), .int .i64 u] 26)).alloc (.cells #[.int .i64 (q : Int), .int .i64 v] 26)) w2) := (HB0.out.alloc (by omega) _).trans (hb2.mono (by omega))
      clear hb2 l0 l1 l2 l3 l4
      obtain ⟨l0, l1, l2, l3, l4⟩ := seen_low HB2.out
      go_wp2
      go_roundg 0
      case measure => omega
      case rel => exact ⟨2, by omega, by omega, by go_num, HB2.out.alloc (by have := HB2.out.size; simp at this; omega) _⟩
    · go_wp2_with fail
      refine Calls.mono (DR.out _ (HS.out.below HB.out)) ?_
      rintro e w2 ⟨rv, rfl, hb2, hown2⟩
      obtain ⟨ra, rc, hrv, hints, _⟩ := own_slice hown2
      have HB2 : Hid (Below w.heap.size w w2) := HB.out.trans (hb2.mono HB.out.size)
      have m0 := (hb2.cell (p := ⟨w.heap.size, 0, none⟩) q0).trans l0
      have hm0 := World.block_lt_of_cell? _ _ m0
      subst hrv
      have CF : Hid _ := containsFunc_in 56 #[.pointer (some ⟨w.heap.size, 0, none⟩)] (fun x => (nd S x.toNat).c) ra rc R w2 (by have := RL.out; omega) hints (enters_of Try.func56 (by kernel_rfl) rfl) (fun y hy w3 h3 => by
        obtain ⟨x, rfl, hx⟩ := RP.out y hy
        rw [Int.toNat_natCast]
        exact DC.out x w3 hx (HS.out.below (HB2.out.trans (h3.mono HB2.out.size))) ((h3.cell (p := ⟨w.heap.size, 0, none⟩) hm0).trans m0))
      clear hb2 hown2 hints l0 l1 l2 l3 l4 DC
      generalize R.length = RL0 at *
      go_wp2_with fail
      refine Calls.mono CF.out ?_
      rintro e w3 ⟨rfl, hb3⟩
      have HB3 : Hid (Below w.heap.size w w3) := HB2.out.trans (hb3.mono HB2.out.size)
      obtain ⟨bb, hbb⟩ : ∃ bb, (R.any fun x => (nd S x.toNat).c) = bb := ⟨_, rfl⟩
      have SF2 := SF.out
      rw [hbb] at SF2 ⊢
      have HSF : Hid _ := SF2
      clear hb3 SF2 hbb m0 CF
      go_wp2
      refine bodyPost_ret (v := .tuple #[.bool (!bb), .int .i64 0]) (by simp [results, Try.results26, go_sem]) rfl ⟨?_, HB3.out⟩
      rw [HSF.out]

set_option maxRecDepth 100000 in
set_option maxHeartbeats 2000000 in
theorem path_ok (a : Option Addr) (c : Nat) (S : List Nd) (k : Nat) (u : Int) (w : World) (wf : WF S) (hS : NdsAt w a S) (hk : k < S.length) (hE : findE S k u = 0) :
    Calls Try.prog 27 #[.agg #[.slice a S.length c], .agg #[.int .i64 (k : Int), .int .i64 u]] w fun e w' => ∃ v, e = .returned (.tuple #[v, .int .i64 0]) ∧ Below w.heap.size w w' ∧ w'.ownsRow w.heap.size 3 1 v (pathF S k).length ((pathF S k).map (Value.int .i64)) := by
  have hN := wf.small
  have D0 : Hid (∀ W, NdsAt W a S → Calls _ _ _ _ _) := fun W hW => find_ok a c S k u W (by omega) wf.big hW hk hE (by have := wf.kids_small hk; omega)
  have DP : Hid (∀ W, NdsAt W a S → Calls _ _ _ _ _) := fun W hW => pathFrom_any a c S k W hN hk hW
  have HS : Hid (NdsAt w a S) := hS
  clear hS wf hE
  obtain ⟨x0, hx0⟩ : ∃ x, nd S k = x := ⟨_, rfl⟩
  rw [hx0] at D0
  clear hx0
  generalize pathF S k = R at *
  generalize S.length = n at *
  go_enter Try.func27, Try.ntmps27
  go_wp2_with fail
  refine Calls.mono (D0.out _ (HS.out.below (two_below _ _ _))) ?_
  rintro e w2 ⟨fg, rfl, hb2, _⟩
  simp only [World.size_alloc] at hb2
  have hs2 := hb2.size
  simp only [World.size_alloc] at hs2
  have l0 : w2.cell? ⟨w.heap.size, 0, none⟩ = some (.slice a n c) := (hb2.cell (by simp; omega)).trans (by go_simp)
  have l1 : w2.cell? ⟨w.heap.size + 1, 0, none⟩ = some (.int .i64 (k : Int)) := (hb2.cell (by simp)).trans (by go_simp)
  have HB2 : Hid (Below w.heap.size w w2) := (two_below _ _ _).trans (hb2.mono (by omega))
  have q0 : w.heap.size < w2.heap.size := by omega
  have q1 : w.heap.size + 1 < w2.heap.size := by omega
  clear hb2
  go_wp2_with fail
  refine Calls.mono (DP.out _ (HS.out.below (HB2.out.alloc HB2.out.size _))) ?_
  rintro e w3 ⟨v, rfl, hb3, hown3⟩
  obtain ⟨ra, rc, hrv, _⟩ := own_slice hown3
  have HB3 : Hid (Below w.heap.size w w3) := (HB2.out.alloc HB2.out.size _).trans (hb3.mono (by simp; omega))
  have HO3 : Hid (w3.ownsRow w.heap.size 3 1 v R.length (R.map (Value.int .i64))) := ownsRow_base hown3 (by simp; omega)
  clear hb3 hown3
  subst hrv
  go_wp2
  refine bodyPost_ret (v := .tuple #[.slice ra R.length rc, .int .i64 0]) (by simp [results, Try.results27, go_sem]) rfl ⟨_, rfl, HB3.out, HO3.out⟩

set_option maxRecDepth 100000 in
set_option maxHeartbeats 2000000 in
theorem target_any (a : Option Addr) (c : Nat) (S : List Nd) (k told : Nat) (w : World) (hN : S.length ≤ 24) (hS : NdsAt w a S) (hk : k < S.length) (ht : told < S.length) :
    Calls Try.prog 34 #[.agg #[.slice a S.length c], .int .i64 (k : Int), .int .i64 (told : Int)] w fun e w' => e = .returned (.int .i64 (targetF S k told)) ∧ Below w.heap.size w w' := by
  have DR : Hid (∀ W, NdsAt W a S → Calls _ _ _ _ _) := fun W hW => rootsBetween_any a c S told k W hN ht hk hW
  have RL : Hid ((rootsF S told k).length ≤ 1000) := Nat.le_trans roots_len (by omega)
  have HS : Hid (NdsAt w a S) := hS
  have RP : Hid (∀ y ∈ rootsF S told k, ∃ x : Nat, y = x ∧ x < S.length) := fun y hy => roots_place hk hy
  have TF : Hid (targetF S k told = if rootsF S told k = [] then (k : Int) else (nd S ((rootsF S told k).getLastD 0).toNat).h) := rfl
  clear hS
  generalize rootsF S told k = R at *
  generalize targetF S k told = B at *
  obtain ⟨n, hn⟩ : ∃ n, S.length = n := ⟨_, rfl⟩
  have HN : Hid (S.length = n) := hn
  rw [hn] at DR RP hN hk ht ⊢
  clear hn
  go_enter Try.func34, Try.ntmps34
  go_wp2_with fail
  refine Calls.mono (DR.out _ (HS.out.below ((Below.refl _ _).alloc (Nat.le_refl _) _))) ?_
  rintro e w2 ⟨rv, rfl, hb2, hown2⟩
  simp only [World.size_alloc] at hb2
  have hs2 := hb2.size
  simp only [World.size_alloc] at hs2
  obtain ⟨ra, rc, hrv, hints, _⟩ := own_slice hown2
  have HB2 : Hid (Below w.heap.size w w2) := ((Below.refl _ _).alloc (Nat.le_refl _) _).trans (hb2.mono (by omega))
  have l0 : w2.cell? ⟨w.heap.size, 0, none⟩ = some (.slice a n c) := (hb2.cell (by simp)).trans (by go_simp)
  have HI : Hid (IntsAt w2 ra R) := hints
  clear hb2 hown2 hints
  subst hrv
  by_cases hR : R = []
  · have hB : B = (k : Int) := by rw [TF.out, if_pos hR]
    subst hR
    subst hB
    clear RP TF
    go_wp2
    go_ret
    exact ⟨rfl, HB2.out⟩
  · have hB := TF.out
    rw [if_neg hR, getLastD_ne hR] at hB
    obtain ⟨x, hx, hxn⟩ := RP.out _ (List.getLast_mem hR)
    rw [hx, Int.toNat_natCast] at hB
    obtain ⟨L, hL⟩ : ∃ L, R.length = L + 1 := ⟨R.length - 1, by have := List.length_pos_iff.2 hR; omega⟩
    obtain ⟨rb, ro, hra, hrc⟩ := HI.out L (by omega)
    subst hra
    have hlast : R.getD L 0 = (x : Int) := by
      rw [getD_elem R 0 (by omega), ← hx, List.getLast_eq_getElem]
      congr 1
      omega
    rw [hlast] at hrc
    obtain ⟨nb, no, ea, _, _, _, _, _, _, c6, _⟩ := (HS.out.below HB2.out) x (by rw [HN.out]; exact hxn)
    subst ea
    rw [← hB] at c6
    rw [hL]
    have hx2 : (x : Int) < (n : Int) := by omega
    have hL1 : L + 1 ≤ 1000 := by have := RL.out; omega
    have hL2 : ((L : Int) + 1 == 0) = false := by simp; omega
    clear hB hR hx hL hlast RP TF HI RL DR
    go_wp2
    go_ret
    exact ⟨rfl, HB2.out⟩
end Go.Proofs.Ytjlapfgghljidab
