/-
  The reference's Inserted.
-/
import Derived.Test.YtiekhgpnmcffiaaJRxa
import Derived.Test.YtiekhgpnmcffiaaJTl
import Derived.Test.YtiekhgpnmcffiaaJWc
import Derived.Deep.RegionHeld3
import Derived.Deep.DeepCutAuto
import Derived.BigQuiet
namespace Go.Proofs.Ytiekhgpnmcffiaa
open Go.RowKit

set_option maxHeartbeats 400000 in
theorem insBad_any (E : Int) (w : World) : Calls Try.prog 61 #[.int .i64 E] w fun e w' => e = .returned (.tuple #[.agg #[.slice none 0 0], .int .i64 E]) ∧ Below w.heap.size w w' := by
  go_enter Try.func61, Try.ntmps61
  go_wp2
  refine bodyPost_ret (v := .tuple #[.agg #[.slice none 0 0], .int .i64 E]) (by simp [results, Try.results61, go_sem]) rfl ⟨rfl, ?_⟩
  first
    | exact one_belowS _ _
    | exact (one_belowS _ _).setCell (by simp) _
    | exact ((one_belowS _ _).setCell (by simp) _).drew

theorem rins_low {w w1 : World} {a : Option Addr} {n c : Nat} {P pu C cu : Int} (hb : Below (w.heap.size + 1 + 1 + 1 + 1) ((((w.alloc (.cells #[.slice a n c] 29)).alloc (.cells #[.int .i64 P, .int .i64 pu] 31)).alloc (.cells #[.int .i64 C, .int .i64 cu] 31)).alloc (.cells #[.slice none 0 0] 29)) w1) :
    (w1.cell? ⟨w.heap.size, 0, none⟩ = some (.slice a n c) ∧ w1.cell? ⟨w.heap.size + 1, 0, none⟩ = some (.int .i64 P) ∧ w1.cell? ⟨w.heap.size + 1 + 1, 0, none⟩ = some (.int .i64 C) ∧ w1.cell? ⟨w.heap.size + 1 + 1 + 1, 0, none⟩ = some (.slice none 0 0)) ∧ ((∀ o, w1.frozen? ⟨w.heap.size, o, none⟩ = false) ∧ ∀ o, w1.frozen? ⟨w.heap.size + 1 + 1 + 1, o, none⟩ = false) ∧ w.heap.size + 4 ≤ w1.heap.size ∧ Below w.heap.size w w1 := by
  have hs := hb.size
  simp only [World.size_alloc] at hs
  refine ⟨⟨?_, ?_, ?_, ?_⟩, ⟨fun o => ?_, fun o => ?_⟩, by omega, (four_below _ _ _ _ _).trans (hb.mono (by omega))⟩
  all_goals first | exact (hb.cell (by first | (simp; done) | (simp; omega))).trans (by go_simp) | exact (hb.frozen (by first | (simp; done) | (simp; omega))).trans (by go_simp)

set_option maxRecDepth 100000 in
set_option maxHeartbeats 1000000 in
theorem rIns_many (a : Option Addr) (c n : Nat) (P C pu cu : Int) (ha : Option Addr) (hc m : Nat) (w : World) (hm : 1 < m) :
    Calls Try.prog 29 #[.agg #[.slice a n c], .agg #[.int .i64 P, .int .i64 pu], .agg #[.int .i64 C, .int .i64 cu], .slice ha m hc] w fun e w' => e = .returned (.tuple #[.agg #[.slice none 0 0], .int .i64 3]) ∧ Below w.heap.size w w' := by
  have DB : Hid _ := insBad_any
  have hm2 : (1 : Int) < (m : Int) := by omega
  have hm3 : decide ((1 : Int) < (m : Int)) = true := decide_eq_true hm2
  go_enter Try.func29, Try.ntmps29
  go_wp2_with fail
  refine Calls.mono (DB.out _ _) ?_
  rintro e wb ⟨rfl, hbb⟩
  have HBb : Hid (Below (w.heap.size + 1 + 1 + 1 + 1) ((((w.alloc (.cells #[.slice a n c] 29)).alloc (.cells #[.int .i64 P, .int .i64 pu] 31)).alloc (.cells #[.int .i64 C, .int .i64 cu] 31)).alloc (.cells #[.slice none 0 0] 29)) wb) := (by simpa using hbb : Below (w.heap.size + 1 + 1 + 1 + 1) ((((w.alloc (.cells #[.slice a n c] 29)).alloc (.cells #[.int .i64 P, .int .i64 pu] 31)).alloc (.cells #[.int .i64 C, .int .i64 cu] 31)).alloc (.cells #[.slice none 0 0] 29)) wb)
  obtain ⟨⟨l0, l1, l2, l3⟩, ⟨z0, z3⟩, hsz, hB⟩ := rins_low HBb.out
  have q3 : w.heap.size + 1 + 1 + 1 < wb.heap.size := by omega
  have HBc : Hid _ := hB
  clear hbb hB
  go_wp2_with fail
  refine bodyPost_ret (v := .tuple #[.agg #[.slice none 0 0], .int .i64 3]) (by simp [results, Try.results29, go_sem, l3]) rfl ⟨rfl, ?_⟩
  first | exact HBc.out.setCell (by simp; omega) _ | exact (HBc.out.setCell (by simp; omega) _).drew

set_option maxRecDepth 100000 in
set_option maxHeartbeats 4000000 in
theorem rIns_err (a : Option Addr) (c : Nat) (S : List Nd) (P C pu cu : Int) (ha : Option Addr) (hc : Nat) (hs : List (Int × Int)) (E : Int) (w : World) (hN : S.length ≤ 9223372036854775807) (hC : RChk a c S) (hS : NdsAt w a S) (hH : HandsAt w ha hs) (hm : hs.length ≤ 1) (hE : tcheckE S ((P, pu) :: (C, cu) :: hs) = E) (hE0 : E ≠ 0) :
    Calls Try.prog 29 #[.agg #[.slice a S.length c], .agg #[.int .i64 P, .int .i64 pu], .agg #[.int .i64 C, .int .i64 cu], .slice ha hs.length hc] w fun e w' => e = .returned (.tuple #[.agg #[.slice none 0 0], .int .i64 E]) ∧ Below w.heap.size w w' := by
  have df := fun (W : World) (ha' : Option Addr) (hcc : Nat) (hW : NdsAt W a S) (hH' : HandsAt W ha' ((P, pu) :: (C, cu) :: hs)) => rFirst_any a c S ha' hcc ((P, pu) :: (C, cu) :: hs) W hN hC hW (by simp; omega) hH'
  rw [hE] at df
  have DF : Hid (∀ (W : World) (ha' : Option Addr) (hcc : Nat), NdsAt W a S → HandsAt W ha' ((P, pu) :: (C, cu) :: hs) → Calls Try.prog 43 #[.agg #[.slice a S.length c], .slice ha' (hs.length + 2) hcc] W fun e w' => e = .returned (.int .i64 E) ∧ Below W.heap.size W w') := df
  have HS : Hid (NdsAt w a S) := hS
  have HH : Hid (HandsAt w ha hs) := hH
  have DB : Hid _ := insBad_any
  obtain ⟨i0, hi0, hz0, hz1, hz2⟩ := info_parts info31
  clear hS hC df hE hH
  obtain ⟨m, hml⟩ : ∃ m, hs.length = m := ⟨_, rfl⟩
  have HM : Hid (hs.length = m) := hml
  rw [hml] at hm DF ⊢
  have hm2 : ¬ (1 : Int) < (m : Int) := by omega
  have hm3 : decide ((1 : Int) < (m : Int)) = false := decide_eq_false hm2
  obtain ⟨n, hn⟩ : ∃ n, S.length = n := ⟨_, rfl⟩
  have HN : Hid (S.length = n) := hn
  clear hml
  have hz : (E == 0) = false := by simp [hE0]
  have hzd : decide (E = 0) = false := decide_eq_false hE0
  rw [hn] at hN DF ⊢
  clear hn
  go_enter Try.func29, Try.ntmps29
  go_upto_region 4 with fail
  obtain ⟨W4, hW4⟩ : ∃ W4, W4 = ((((w.alloc (.cells #[.slice a n c] 29)).alloc (.cells #[.int .i64 P, .int .i64 pu] 31)).alloc (.cells #[.int .i64 C, .int .i64 cu] 31)).alloc (.cells #[.slice none 0 0] 29)) := ⟨_, rfl⟩
  rw [← hW4]
  have hb4 : Below (w.heap.size + 1 + 1 + 1 + 1) ((((w.alloc (.cells #[.slice a n c] 29)).alloc (.cells #[.int .i64 P, .int .i64 pu] 31)).alloc (.cells #[.int .i64 C, .int .i64 cu] 31)).alloc (.cells #[.slice none 0 0] 29)) W4 := by rw [hW4]; exact Below.refl _ _
  obtain ⟨l0, l1, l2, l3, l4, l5, l6⟩ := ins_low4 hb4
  have hsz4 : W4.heap.size = w.heap.size + 1 + 1 + 1 + 1 := by rw [hW4]; simp
  have HB4 : Hid (Below w.heap.size w W4) := (four_below _ _ _ _ _).trans (hb4.mono (by omega))
  have HBB : Hid (Below (w.heap.size + 1 + 1 + 1 + 1) ((((w.alloc (.cells #[.slice a n c] 29)).alloc (.cells #[.int .i64 P, .int .i64 pu] 31)).alloc (.cells #[.int .i64 C, .int .i64 cu] 31)).alloc (.cells #[.slice none 0 0] 29)) W4) := hb4
  clear hW4 hb4
  go_cut [11] (fun s11 wx => s11 = .int .i64 E ∧ Hid (Below (w.heap.size + 1 + 1 + 1 + 1) ((((w.alloc (.cells #[.slice a n c] 29)).alloc (.cells #[.int .i64 P, .int .i64 pu] 31)).alloc (.cells #[.int .i64 C, .int .i64 cu] 31)).alloc (.cells #[.slice none 0 0] 29)) wx))
  case first =>
    have ne0 := World.new_ne W4 _ l0
    have ne1 := World.new_ne W4 _ l1
    have ne2 := World.new_ne W4 _ l2
    have ne3 := World.new_ne W4 _ l3
    have ne4 := World.new_ne W4 _ l4
    cases hs with
    | nil =>
      have e0 : m = 0 := HM.out.symm
      subst e0
      cases ha with
      | none =>
        go_region_held3 (fun w'' => w''.cell? ⟨w.heap.size, 0, none⟩ = some (.slice a n c) ∧ w''.cell? ⟨w.heap.size + 1, 0, none⟩ = some (.int .i64 P) ∧ w''.cell? ⟨w.heap.size + 1, 1, none⟩ = some (.int .i64 pu) ∧ w''.cell? ⟨w.heap.size + 1 + 1, 0, none⟩ = some (.int .i64 C) ∧ w''.cell? ⟨w.heap.size + 1 + 1, 1, none⟩ = some (.int .i64 cu)) (go_keep) (first | (go_at_call 43; refine (DF.out _ _ 2 (HS.out.below (HB4.out.alloc (by omega) _).drew) (hands_two _ _ _ _ _ _ (by go_simp) (by go_simp) (by go_simp) (by go_simp))).mono ?_; rintro e w6 ⟨rfl, hb5⟩; have hB5 : Below (w.heap.size + 1 + 1 + 1 + 1) ((((w.alloc (.cells #[.slice a n c] 29)).alloc (.cells #[.int .i64 P, .int .i64 pu] 31)).alloc (.cells #[.int .i64 C, .int .i64 cu] 31)).alloc (.cells #[.slice none 0 0] 29)) w6 := (HBB.out.alloc (by omega) _).drew.trans (hb5.mono (by simp; omega)); obtain ⟨m0, m1, m2, m3, m4, m5, m6⟩ := ins_low4 hB5; have H6 : Hid (Below (w.heap.size + 1 + 1 + 1 + 1) ((((w.alloc (.cells #[.slice a n c] 29)).alloc (.cells #[.int .i64 P, .int .i64 pu] 31)).alloc (.cells #[.int .i64 C, .int .i64 cu] 31)).alloc (.cells #[.slice none 0 0] 29)) w6) := hB5; clear hb5 hB5))
        go_wp2_with fail
        go_meet
        case rel => exact ⟨rfl, H6⟩
      | some A0 =>
        go_region_held3 (fun w'' => w''.cell? ⟨w.heap.size, 0, none⟩ = some (.slice a n c) ∧ w''.cell? ⟨w.heap.size + 1, 0, none⟩ = some (.int .i64 P) ∧ w''.cell? ⟨w.heap.size + 1, 1, none⟩ = some (.int .i64 pu) ∧ w''.cell? ⟨w.heap.size + 1 + 1, 0, none⟩ = some (.int .i64 C) ∧ w''.cell? ⟨w.heap.size + 1 + 1, 1, none⟩ = some (.int .i64 cu)) (go_keep) (first | (go_at_call 43; refine (DF.out _ _ 2 (HS.out.below (HB4.out.alloc (by omega) _).drew) (hands_two _ _ _ _ _ _ (by go_simp) (by go_simp) (by go_simp) (by go_simp))).mono ?_; rintro e w6 ⟨rfl, hb5⟩; have hB5 : Below (w.heap.size + 1 + 1 + 1 + 1) ((((w.alloc (.cells #[.slice a n c] 29)).alloc (.cells #[.int .i64 P, .int .i64 pu] 31)).alloc (.cells #[.int .i64 C, .int .i64 cu] 31)).alloc (.cells #[.slice none 0 0] 29)) w6 := (HBB.out.alloc (by omega) _).drew.trans (hb5.mono (by simp; omega)); obtain ⟨m0, m1, m2, m3, m4, m5, m6⟩ := ins_low4 hB5; have H6 : Hid (Below (w.heap.size + 1 + 1 + 1 + 1) ((((w.alloc (.cells #[.slice a n c] 29)).alloc (.cells #[.int .i64 P, .int .i64 pu] 31)).alloc (.cells #[.int .i64 C, .int .i64 cu] 31)).alloc (.cells #[.slice none 0 0] 29)) w6) := hB5; clear hb5 hB5))
        go_wp2_with fail
        go_meet
        case rel => exact ⟨rfl, H6⟩
    | cons h t =>
      have e0 : t = [] ∧ m = 1 := by
        have h1 := HM.out
        rw [List.length_cons] at h1
        exact ⟨List.length_eq_zero_iff.1 (by omega), by omega⟩
      obtain ⟨e0, e1⟩ := e0
      subst e0
      subst e1
      obtain ⟨Q, qu⟩ := h
      obtain ⟨hb0, ho0, eh, _, _⟩ := HH.out 0 (by simp)
      subst eh
      have HC : Hid (∀ W, HandsAt W (some ⟨hb0, ho0, none⟩) [(Q, qu)] → W.cell? ⟨hb0, ho0, none⟩ = some (.int .i64 Q) ∧ W.cell? ⟨hb0, ho0 + 1, none⟩ = some (.int .i64 qu)) := fun W hW => by
        obtain ⟨b, o, e, h1, h2⟩ := hW 0 (by simp)
        cases e
        exact ⟨by simpa using h1, by simpa using h2⟩
      have HOLDS : Hid (∀ b, some (⟨w.heap.size + 1 + 1 + 1 + 1, 0, none⟩ : Addr) = some b → ∀ j u, ([.int .i64 P, .int .i64 pu, .int .i64 C, .int .i64 cu] : List Value)[j]? = some u → ((W4.alloc (.cells #[.int .i64 P, .int .i64 pu, .int .i64 C, .int .i64 cu] 31)).drew).cell? (b.add j) = some u) := fun b hb j u hj => by
        cases hb
        rw [Addr.add_lit, ← hsz4]
        match j, hj with
        | 0, hj => cases hj; go_simp
        | 1, hj => cases hj; go_simp
        | 2, hj => cases hj; go_simp
        | 3, hj => cases hj; go_simp
      have NEWS : Hid (∀ j u, ([.int .i64 Q, .int .i64 qu] : List Value)[j]? = some u → ((W4.alloc (.cells #[.int .i64 P, .int .i64 pu, .int .i64 C, .int .i64 cu] 31)).drew).cell? ((⟨hb0, ho0, none⟩ : Addr).add j) = some u) := fun j u hj => by
        obtain ⟨c0, c1⟩ := HC.out _ (HH.out.below (HB4.out.alloc (by omega) (.cells #[.int .i64 P, .int .i64 pu, .int .i64 C, .int .i64 cu] 31)).drew)
        rw [Addr.add_lit]
        match j, hj with
        | 0, hj => cases hj; exact c0
        | 1, hj => cases hj; exact c1
      go_region_held3 (fun w'' => w''.cell? ⟨w.heap.size, 0, none⟩ = some (.slice a n c) ∧ w''.cell? ⟨w.heap.size + 1, 0, none⟩ = some (.int .i64 P) ∧ w''.cell? ⟨w.heap.size + 1, 1, none⟩ = some (.int .i64 pu) ∧ w''.cell? ⟨w.heap.size + 1 + 1, 0, none⟩ = some (.int .i64 C) ∧ w''.cell? ⟨w.heap.size + 1 + 1, 1, none⟩ = some (.int .i64 cu)) (go_keep) (first
        | (refine step_append_grows rfl (.tmp 31) (.tmp 32) 50 rfl 31 i0 (.agg #[.int .i64 0, .int .i64 0]) 2 16 Try.underlying50 hi0 hz0 hz1 hz2 rfl (by decide) (some ⟨w.heap.size + 1 + 1 + 1 + 1, 0, none⟩) 2 2 [.int .i64 P, .int .i64 pu, .int .i64 C, .int .i64 cu] rfl (fun h => by cases h) rfl HOLDS.out ⟨hb0, ho0, none⟩ 1 hc [.int .i64 Q, .int .i64 qu] rfl rfl NEWS.out (by intro u hu; simp at hu; rcases hu with rfl | rfl <;> rfl) (by decide) (by decide) (by decide) ?_; intro v5 w5 hown5 hgrow5; have hB5 : Below (w.heap.size + 1 + 1 + 1 + 1) ((((w.alloc (.cells #[.slice a n c] 29)).alloc (.cells #[.int .i64 P, .int .i64 pu] 31)).alloc (.cells #[.int .i64 C, .int .i64 cu] 31)).alloc (.cells #[.slice none 0 0] 29)) w5 := (HBB.out.alloc (by omega) _).drew.grown hgrow5 (by simp; omega) (fun k hk => by cases hk); obtain ⟨k0, k1, k2, k3, k4, k5, k6⟩ := ins_low4 hB5; obtain ⟨ha5, hc5, hv5, hh5⟩ := hands_own hown5; subst hv5; have HH5 : Hid (HandsAt w5 ha5 [(P, pu), (C, cu), (Q, qu)]) := hh5; have H5 : Hid (Below (w.heap.size + 1 + 1 + 1 + 1) ((((w.alloc (.cells #[.slice a n c] 29)).alloc (.cells #[.int .i64 P, .int .i64 pu] 31)).alloc (.cells #[.int .i64 C, .int .i64 cu] 31)).alloc (.cells #[.slice none 0 0] 29)) w5) := hB5; clear hown5 hgrow5 hB5 hh5)
        | (go_at_call 43; refine (DF.out _ _ _ (HS.out.below ((four_below _ _ _ _ _).trans (H5.out.mono (by omega)))) HH5.out).mono ?_; rintro e w6 ⟨rfl, hb6⟩; have hs5 := H5.out.size; simp only [World.size_alloc] at hs5; have hB6 : Below (w.heap.size + 1 + 1 + 1 + 1) ((((w.alloc (.cells #[.slice a n c] 29)).alloc (.cells #[.int .i64 P, .int .i64 pu] 31)).alloc (.cells #[.int .i64 C, .int .i64 cu] 31)).alloc (.cells #[.slice none 0 0] 29)) w6 := H5.out.trans (hb6.mono hs5); obtain ⟨m0, m1, m2, m3, m4, m5, m6⟩ := ins_low4 hB6; have H6 : Hid (Below (w.heap.size + 1 + 1 + 1 + 1) ((((w.alloc (.cells #[.slice a n c] 29)).alloc (.cells #[.int .i64 P, .int .i64 pu] 31)).alloc (.cells #[.int .i64 C, .int .i64 cu] 31)).alloc (.cells #[.slice none 0 0] 29)) w6) := hB6; clear hb6 hB6))
      go_wp2_with fail
      go_meet
      case rel => exact ⟨rfl, H6⟩
  case rest =>
  obtain ⟨rfl, H6⟩ := hcut
  clear l0 l1 l2 l3 l4 l5 l6 hsz4 HB4 HBB DF
  go_wp2_with fail
  refine Calls.mono (DB.out _ _) ?_
  rintro e wb ⟨rfl, hbb⟩
  have HBb : Hid (Below (w.heap.size + 1 + 1 + 1 + 1) ((((w.alloc (.cells #[.slice a n c] 29)).alloc (.cells #[.int .i64 P, .int .i64 pu] 31)).alloc (.cells #[.int .i64 C, .int .i64 cu] 31)).alloc (.cells #[.slice none 0 0] 29)) wb) := H6.out.trans (hbb.mono (by have := H6.out.size; simp only [World.size_alloc] at this; omega))
  obtain ⟨⟨l0, l1, l2, l3⟩, ⟨z0, z3⟩, hsz, hB⟩ := rins_low HBb.out
  have q3 : w.heap.size + 1 + 1 + 1 < wb.heap.size := by omega
  have HBc : Hid _ := hB
  clear hbb hB
  go_wp2_with fail
  refine bodyPost_ret (v := .tuple #[.agg #[.slice none 0 0], .int .i64 E]) (by simp [results, Try.results29, go_sem, l3]) rfl ⟨rfl, ?_⟩
  first | exact HBc.out.setCell (by simp; omega) _ | exact (HBc.out.setCell (by simp; omega) _).drew
end Go.Proofs.Ytiekhgpnmcffiaa
