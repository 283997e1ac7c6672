/-
  The program's Insert, in one walk.
-/
import Derived.Test.YtgjfmepbphfjoaaGreatUZaTl
import Derived.Test.YtgjfmepbphfjoaaGreatUUbWbWdSr
import Derived.Deep.RegionHeld3
import Derived.Deep.DeepCutAuto
import Derived.BigQuiet
namespace Go.Proofs.YtgjfmepbphfjoaaGreat
open Go.RowKit

/-- What Insert is to answer, R and T, where its first checks say E. -/
def InsWay (S T : List Nd) (P C cu : Int) (hs : List (Int × Int)) (E R : Int) : Prop :=
  (E ≠ 0 ∧ R = E ∧ T = []) ∨
  ∃ pa ch : Nat, P = pa ∧ C = ch ∧ E = 0 ∧ S.length ≤ 24 ∧ pa < S.length ∧ ch < S.length ∧
    (fitsB S ch pa = false → R = 6 ∧ T = []) ∧
    (fitsB S ch pa = true → (∀ h ∈ hs, ∃ q : Nat, h.1 = q ∧ q < S.length) ∧
      ((∃ h ∈ hs, (nd S h.1.toNat).p ≠ pa) → R = 6 ∧ T = []) ∧
      ((∀ h ∈ hs, (nd S h.1.toNat).p = pa) → R = 0 ∧ (∀ i, i < S.length → (nd S i).ks.length ≤ 1000) ∧ T.length = S.length ∧
        ((((ch : Int), cu) ∈ hs ∧ T = S) ∨
        (((ch : Int), cu) ∉ hs ∧ pa ≠ ch ∧ ((nd S ch).p = -1 ∨ ∃ p0 : Nat, p0 < S.length ∧ p0 ≠ ch ∧ (nd S ch).p = p0) ∧
          ∃ at' : Nat, atS (nd (leaveG S ch) pa).ks hs = at' ∧ at' ≤ (nd (leaveG S ch) pa).ks.length ∧ T = enterS (leaveG S ch) pa ch at'))))

set_option maxRecDepth 100000 in
set_option maxHeartbeats 40000000 in
theorem insert_all (a : Option Addr) (c : Nat) (S : List Nd) (P C pu cu : Int) (ha : Option Addr) (hc : Nat) (hs : List (Int × Int)) (E R : Int) (T : List Nd) (w : World) (hN : S.length ≤ 9223372036854775807) (hB : Big S) (hS : NdsAt w a S) (hH : HandsAt w ha hs) (hm : hs.length ≤ 1) (hE : tcheckE S ((P, pu) :: (C, cu) :: hs) = E) (hI : InsWay S T P C cu hs E R) :
    Calls Tryz.prog 112 #[.agg #[.slice a S.length c], .agg #[.int .i64 P, .int .i64 pu], .agg #[.int .i64 C, .int .i64 cu], .slice ha hs.length hc] w fun e w' => ∃ a' c', e = .returned (.tuple #[.agg #[.slice a' T.length c'], .int .i64 R]) ∧ Below w.heap.size w w' ∧ ∀ w3 : World, (∀ b, w.heap.size ≤ b → w3.heap[b]? = w'.heap[b]?) → NdsAt w3 a' T := by
  have df := fun (W : World) (ha' : Option Addr) (hcc : Nat) (hW : NdsAt W a S) (hH' : HandsAt W ha' ((P, pu) :: (C, cu) :: hs)) => tcheck_any a c S ha' hcc ((P, pu) :: (C, cu) :: hs) W hN hB hW (by simp; omega) hH'
  rw [hE] at df
  have DF : Hid (∀ (W : World) (ha' : Option Addr) (hcc : Nat), NdsAt W a S → HandsAt W ha' ((P, pu) :: (C, cu) :: hs) → Calls Tryz.prog 105 #[.agg #[.slice a S.length c], .slice ha' (hs.length + 2) hcc] W fun e w' => e = .returned (.int .i64 E) ∧ Below W.heap.size W w') := df
  have HS : Hid (NdsAt w a S) := hS
  have HH : Hid (HandsAt w ha hs) := hH
  obtain ⟨i0, hi0, hz0, hz1, hz2⟩ := info_parts info39
  clear hS hB df hE hH
  obtain ⟨m, hml⟩ : ∃ m, hs.length = m := ⟨_, rfl⟩
  have HM : Hid (hs.length = m) := hml
  rw [hml] at hm DF ⊢
  have hm2 : ¬ (1 : Int) < (m : Int) := by omega
  have hm3 : decide ((1 : Int) < (m : Int)) = false := decide_eq_false hm2
  obtain ⟨n, hn⟩ : ∃ n, S.length = n := ⟨_, rfl⟩
  have HN : Hid (S.length = n) := hn
  clear hml
  have HC : Hid (InsWay S T P C cu hs E R) := hI
  rw [hn] at hN DF ⊢
  clear hn hI
  go_enter Tryz.func112, Tryz.ntmps112
  go_upto_region 3 with fail
  obtain ⟨W4, hW4⟩ : ∃ W4, W4 = ((((w.alloc (.cells #[.slice a n c] 24)).alloc (.cells #[.int .i64 P, .int .i64 pu] 39)).alloc (.cells #[.int .i64 C, .int .i64 cu] 39)).alloc (.cells #[.slice none 0 0] 24)) := ⟨_, rfl⟩
  rw [← hW4]
  have hb4 : Below (w.heap.size + 1 + 1 + 1 + 1) ((((w.alloc (.cells #[.slice a n c] 24)).alloc (.cells #[.int .i64 P, .int .i64 pu] 39)).alloc (.cells #[.int .i64 C, .int .i64 cu] 39)).alloc (.cells #[.slice none 0 0] 24)) W4 := by rw [hW4]; exact Below.refl _ _
  obtain ⟨l0, l1, l2, l3, l4, l5, l6⟩ := ins_low4 hb4
  have hsz4 : W4.heap.size = w.heap.size + 1 + 1 + 1 + 1 := by rw [hW4]; simp
  have HB4 : Hid (Below w.heap.size w W4) := (four_below _ _ _ _ _).trans (hb4.mono (by omega))
  have HBB : Hid (Below (w.heap.size + 1 + 1 + 1 + 1) ((((w.alloc (.cells #[.slice a n c] 24)).alloc (.cells #[.int .i64 P, .int .i64 pu] 39)).alloc (.cells #[.int .i64 C, .int .i64 cu] 39)).alloc (.cells #[.slice none 0 0] 24)) W4) := hb4
  clear hW4 hb4
  go_cut [10] (fun s11 wx => s11 = .int .i64 E ∧ Hid (Below (w.heap.size + 1 + 1 + 1 + 1) ((((w.alloc (.cells #[.slice a n c] 24)).alloc (.cells #[.int .i64 P, .int .i64 pu] 39)).alloc (.cells #[.int .i64 C, .int .i64 cu] 39)).alloc (.cells #[.slice none 0 0] 24)) wx))
  case first =>
    have ne0 := World.new_ne W4 _ l0
    have ne1 := World.new_ne W4 _ l1
    have ne2 := World.new_ne W4 _ l2
    have ne3 := World.new_ne W4 _ l3
    have ne4 := World.new_ne W4 _ l4
    cases hs with
    | nil =>
      have e0 : m = 0 := HM.out.symm
      subst e0
      cases ha with
      | none =>
        go_region_held3 (fun w'' => w''.cell? ⟨w.heap.size, 0, none⟩ = some (.slice a n c) ∧ w''.cell? ⟨w.heap.size + 1, 0, none⟩ = some (.int .i64 P) ∧ w''.cell? ⟨w.heap.size + 1, 1, none⟩ = some (.int .i64 pu) ∧ w''.cell? ⟨w.heap.size + 1 + 1, 0, none⟩ = some (.int .i64 C) ∧ w''.cell? ⟨w.heap.size + 1 + 1, 1, none⟩ = some (.int .i64 cu)) (go_keep) (first | (go_at_call 105; refine (DF.out _ _ 2 (HS.out.below (HB4.out.alloc (by omega) _).drew) (hands_two _ _ _ _ _ _ (by go_simp) (by go_simp) (by go_simp) (by go_simp))).mono ?_; rintro e w6 ⟨rfl, hb5⟩; have hB5 : Below (w.heap.size + 1 + 1 + 1 + 1) ((((w.alloc (.cells #[.slice a n c] 24)).alloc (.cells #[.int .i64 P, .int .i64 pu] 39)).alloc (.cells #[.int .i64 C, .int .i64 cu] 39)).alloc (.cells #[.slice none 0 0] 24)) w6 := (HBB.out.alloc (by omega) _).drew.trans (hb5.mono (by simp; omega)); obtain ⟨m0, m1, m2, m3, m4, m5, m6⟩ := ins_low4 hB5; have H6 : Hid (Below (w.heap.size + 1 + 1 + 1 + 1) ((((w.alloc (.cells #[.slice a n c] 24)).alloc (.cells #[.int .i64 P, .int .i64 pu] 39)).alloc (.cells #[.int .i64 C, .int .i64 cu] 39)).alloc (.cells #[.slice none 0 0] 24)) w6) := hB5; clear hb5 hB5))
        go_wp2_with fail
        go_meet
        case rel => exact ⟨rfl, H6⟩
      | some A0 =>
        go_region_held3 (fun w'' => w''.cell? ⟨w.heap.size, 0, none⟩ = some (.slice a n c) ∧ w''.cell? ⟨w.heap.size + 1, 0, none⟩ = some (.int .i64 P) ∧ w''.cell? ⟨w.heap.size + 1, 1, none⟩ = some (.int .i64 pu) ∧ w''.cell? ⟨w.heap.size + 1 + 1, 0, none⟩ = some (.int .i64 C) ∧ w''.cell? ⟨w.heap.size + 1 + 1, 1, none⟩ = some (.int .i64 cu)) (go_keep) (first | (go_at_call 105; refine (DF.out _ _ 2 (HS.out.below (HB4.out.alloc (by omega) _).drew) (hands_two _ _ _ _ _ _ (by go_simp) (by go_simp) (by go_simp) (by go_simp))).mono ?_; rintro e w6 ⟨rfl, hb5⟩; have hB5 : Below (w.heap.size + 1 + 1 + 1 + 1) ((((w.alloc (.cells #[.slice a n c] 24)).alloc (.cells #[.int .i64 P, .int .i64 pu] 39)).alloc (.cells #[.int .i64 C, .int .i64 cu] 39)).alloc (.cells #[.slice none 0 0] 24)) w6 := (HBB.out.alloc (by omega) _).drew.trans (hb5.mono (by simp; omega)); obtain ⟨m0, m1, m2, m3, m4, m5, m6⟩ := ins_low4 hB5; have H6 : Hid (Below (w.heap.size + 1 + 1 + 1 + 1) ((((w.alloc (.cells #[.slice a n c] 24)).alloc (.cells #[.int .i64 P, .int .i64 pu] 39)).alloc (.cells #[.int .i64 C, .int .i64 cu] 39)).alloc (.cells #[.slice none 0 0] 24)) w6) := hB5; clear hb5 hB5))
        go_wp2_with fail
        go_meet
        case rel => exact ⟨rfl, H6⟩
    | cons h t =>
      have e0 : t = [] ∧ m = 1 := by
        have h1 := HM.out
        rw [List.length_cons] at h1
        exact ⟨List.length_eq_zero_iff.1 (by omega), by omega⟩
      obtain ⟨e0, e1⟩ := e0
      subst e0
      subst e1
      obtain ⟨Q, qu⟩ := h
      obtain ⟨hb0, ho0, eh, _, _⟩ := HH.out 0 (by simp)
      subst eh
      have HC : Hid (∀ W, HandsAt W (some ⟨hb0, ho0, none⟩) [(Q, qu)] → W.cell? ⟨hb0, ho0, none⟩ = some (.int .i64 Q) ∧ W.cell? ⟨hb0, ho0 + 1, none⟩ = some (.int .i64 qu)) := fun W hW => by
        obtain ⟨b, o, e, h1, h2⟩ := hW 0 (by simp)
        cases e
        exact ⟨by simpa using h1, by simpa using h2⟩
      have HOLDS : Hid (∀ b, some (⟨w.heap.size + 1 + 1 + 1 + 1, 0, none⟩ : Addr) = some b → ∀ j u, ([.int .i64 P, .int .i64 pu, .int .i64 C, .int .i64 cu] : List Value)[j]? = some u → ((W4.alloc (.cells #[.int .i64 P, .int .i64 pu, .int .i64 C, .int .i64 cu] 39)).drew).cell? (b.add j) = some u) := fun b hb j u hj => by
        cases hb
        rw [Addr.add_lit, ← hsz4]
        match j, hj with
        | 0, hj => cases hj; go_simp
        | 1, hj => cases hj; go_simp
        | 2, hj => cases hj; go_simp
        | 3, hj => cases hj; go_simp
      have NEWS : Hid (∀ j u, ([.int .i64 Q, .int .i64 qu] : List Value)[j]? = some u → ((W4.alloc (.cells #[.int .i64 P, .int .i64 pu, .int .i64 C, .int .i64 cu] 39)).drew).cell? ((⟨hb0, ho0, none⟩ : Addr).add j) = some u) := fun j u hj => by
        obtain ⟨c0, c1⟩ := HC.out _ (HH.out.below (HB4.out.alloc (by omega) (.cells #[.int .i64 P, .int .i64 pu, .int .i64 C, .int .i64 cu] 39)).drew)
        rw [Addr.add_lit]
        match j, hj with
        | 0, hj => cases hj; exact c0
        | 1, hj => cases hj; exact c1
      go_region_held3 (fun w'' => w''.cell? ⟨w.heap.size, 0, none⟩ = some (.slice a n c) ∧ w''.cell? ⟨w.heap.size + 1, 0, none⟩ = some (.int .i64 P) ∧ w''.cell? ⟨w.heap.size + 1, 1, none⟩ = some (.int .i64 pu) ∧ w''.cell? ⟨w.heap.size + 1 + 1, 0, none⟩ = some (.int .i64 C) ∧ w''.cell? ⟨w.heap.size + 1 + 1, 1, none⟩ = some (.int .i64 cu)) (go_keep) (first
        | (refine step_append_grows rfl (.tmp 21) (.tmp 22) 25 rfl 39 i0 (.agg #[.int .i64 0, .int .i64 0]) 2 16 Tryz.underlying25 hi0 hz0 hz1 hz2 rfl (by decide) (some ⟨w.heap.size + 1 + 1 + 1 + 1, 0, none⟩) 2 2 [.int .i64 P, .int .i64 pu, .int .i64 C, .int .i64 cu] rfl (fun h => by cases h) rfl HOLDS.out ⟨hb0, ho0, none⟩ 1 hc [.int .i64 Q, .int .i64 qu] rfl rfl NEWS.out (by intro u hu; simp at hu; rcases hu with rfl | rfl <;> rfl) (by decide) (by decide) (by decide) ?_; intro v5 w5 hown5 hgrow5; have hB5 : Below (w.heap.size + 1 + 1 + 1 + 1) ((((w.alloc (.cells #[.slice a n c] 24)).alloc (.cells #[.int .i64 P, .int .i64 pu] 39)).alloc (.cells #[.int .i64 C, .int .i64 cu] 39)).alloc (.cells #[.slice none 0 0] 24)) w5 := (HBB.out.alloc (by omega) _).drew.grown hgrow5 (by simp; omega) (fun k hk => by cases hk); obtain ⟨k0, k1, k2, k3, k4, k5, k6⟩ := ins_low4 hB5; obtain ⟨ha5, hc5, hv5, hh5⟩ := hands_own hown5; subst hv5; have HH5 : Hid (HandsAt w5 ha5 [(P, pu), (C, cu), (Q, qu)]) := hh5; have H5 : Hid (Below (w.heap.size + 1 + 1 + 1 + 1) ((((w.alloc (.cells #[.slice a n c] 24)).alloc (.cells #[.int .i64 P, .int .i64 pu] 39)).alloc (.cells #[.int .i64 C, .int .i64 cu] 39)).alloc (.cells #[.slice none 0 0] 24)) w5) := hB5; clear hown5 hgrow5 hB5 hh5)
        | (go_at_call 105; refine (DF.out _ _ _ (HS.out.below ((four_below _ _ _ _ _).trans (H5.out.mono (by omega)))) HH5.out).mono ?_; rintro e w6 ⟨rfl, hb6⟩; have hs5 := H5.out.size; simp only [World.size_alloc] at hs5; have hB6 : Below (w.heap.size + 1 + 1 + 1 + 1) ((((w.alloc (.cells #[.slice a n c] 24)).alloc (.cells #[.int .i64 P, .int .i64 pu] 39)).alloc (.cells #[.int .i64 C, .int .i64 cu] 39)).alloc (.cells #[.slice none 0 0] 24)) w6 := H5.out.trans (hb6.mono hs5); obtain ⟨m0, m1, m2, m3, m4, m5, m6⟩ := ins_low4 hB6; have H6 : Hid (Below (w.heap.size + 1 + 1 + 1 + 1) ((((w.alloc (.cells #[.slice a n c] 24)).alloc (.cells #[.int .i64 P, .int .i64 pu] 39)).alloc (.cells #[.int .i64 C, .int .i64 cu] 39)).alloc (.cells #[.slice none 0 0] 24)) w6) := hB6; clear hb6 hB6))
      go_wp2_with fail
      go_meet
      case rel => exact ⟨rfl, H6⟩
  case rest =>
  obtain ⟨rfl, H6⟩ := hcut
  clear l0 l1 l2 l3 l4 l5 l6 hsz4 HB4 HBB DF
  obtain ⟨w6, rfl⟩ : ∃ W, W = wc := ⟨_, rfl⟩
  obtain ⟨m0, m1, m2, m3, m4, m5, m6⟩ := ins_low4 H6.out
  have hic := HC.out
  clear HC
  rcases hic with ⟨hE0, hR, hT⟩ | ⟨pa, ch, rfl, rfl, hE0, hN24, hpa, hch, hX, hY⟩
  · have hz : (E == 0) = false := by simp [hE0]
    have hzd : decide (E = 0) = false := decide_eq_false hE0
    have HR : Hid _ := hR
    have HT : Hid (T = []) := hT
    clear hR hT
    go_wp2_with fail
    refine bodyPost_ret (v := .tuple #[.agg #[.slice none 0 0], .int .i64 E]) (by simp [results, Tryz.results112, go_sem, m5]) rfl ⟨none, ⟨0, by rw [HR.out, HT.out]; rfl⟩, ?_, fun w3 _ => by rw [HT.out]; exact fun _ hi => absurd hi (Nat.not_lt_zero _)⟩
    exact ((four_below _ _ _ _ _).trans (H6.out.mono (by omega))).setCell (by simp; omega) _
  · subst hE0
    have hX : Hid _ := hX
    have hY : Hid _ := hY
    clear hN
    have hN := hN24
    have DF2 : Hid _ := fun (W : World) (hW : NdsAt W a S) => fitsUnder_any a c S ch pa W (by omega) hch hW
    clear hN24
    rw [HN.out] at hN hpa hch DF2
    have hB6w : Below w.heap.size w w6 := (four_below _ _ _ _ _).trans (H6.out.mono (by omega))
    by_cases hfit : fitsB S ch pa = false
    · rw [hfit] at DF2
      obtain ⟨rfl, rfl⟩ := hX.out hfit
      clear hX hY
      go_wp2_with (go_at_call 133; refine (DF2.out _ (HS.out.below hB6w)).mono ?_; rintro e w7 ⟨rfl, hb7⟩; have hs6 := H6.out.size; simp only [World.size_alloc] at hs6; have hB7 : Below (w.heap.size + 1 + 1 + 1 + 1) ((((w.alloc (.cells #[.slice a n c] 24)).alloc (.cells #[.int .i64 (pa : Int), .int .i64 pu] 39)).alloc (.cells #[.int .i64 (ch : Int), .int .i64 cu] 39)).alloc (.cells #[.slice none 0 0] 24)) w7 := H6.out.trans (hb7.mono hs6); obtain ⟨j0, j1, j2, j3, j4, j5, j6⟩ := ins_low4 hB7; have H7 : Hid (Below (w.heap.size + 1 + 1 + 1 + 1) ((((w.alloc (.cells #[.slice a n c] 24)).alloc (.cells #[.int .i64 (pa : Int), .int .i64 pu] 39)).alloc (.cells #[.int .i64 (ch : Int), .int .i64 cu] 39)).alloc (.cells #[.slice none 0 0] 24)) w7) := hB7; clear hb7 hB7 hs6)
      refine bodyPost_ret (v := .tuple #[.agg #[.slice none 0 0], .int .i64 6]) (by simp [results, Tryz.results112, go_sem, j5]) rfl ⟨none, 0, rfl, ?_, fun _ _ _ hi => absurd hi (Nat.not_lt_zero _)⟩
      exact ((four_below _ _ _ _ _).trans (H7.out.mono (by omega))).setCell (by simp; omega) _
    · have hfit : fitsB S ch pa = true := by simpa using hfit
      rw [hfit] at DF2
      obtain ⟨hQ, hA, hK⟩ := hY.out hfit
      have HQQ : Hid _ := hQ
      have HA : Hid _ := hA
      have HKK : Hid _ := hK
      rw [HN.out] at HQQ
      clear hfit hQ hA hK hY hX
      go_wp2_with (go_at_call 133; refine (DF2.out _ (HS.out.below hB6w)).mono ?_; rintro e w7 ⟨rfl, hb7⟩; have hs6 := H6.out.size; simp only [World.size_alloc] at hs6; have hB7 : Below (w.heap.size + 1 + 1 + 1 + 1) ((((w.alloc (.cells #[.slice a n c] 24)).alloc (.cells #[.int .i64 (pa : Int), .int .i64 pu] 39)).alloc (.cells #[.int .i64 (ch : Int), .int .i64 cu] 39)).alloc (.cells #[.slice none 0 0] 24)) w7 := H6.out.trans (hb7.mono hs6); have H7 : Hid (Below (w.heap.size + 1 + 1 + 1 + 1) ((((w.alloc (.cells #[.slice a n c] 24)).alloc (.cells #[.int .i64 (pa : Int), .int .i64 pu] 39)).alloc (.cells #[.int .i64 (ch : Int), .int .i64 cu] 39)).alloc (.cells #[.slice none 0 0] 24)) w7) := hB7; clear hb7 hB7 hs6)
      clear m0 m1 m2 m3 m4 m5 m6 hB6w
      go_loopg [39] 1 (fun g1 s39 wr => ∃ k : Nat, k ≤ m ∧ m - k ≤ g1 ∧ s39 = .int .i64 k ∧ Hid (Below (w.heap.size + 1 + 1 + 1 + 1) ((((w.alloc (.cells #[.slice a n c] 24)).alloc (.cells #[.int .i64 (pa : Int), .int .i64 pu] 39)).alloc (.cells #[.int .i64 (ch : Int), .int .i64 cu] 39)).alloc (.cells #[.slice none 0 0] 24)) wr) ∧ Hid (0 < k → ∀ h ∈ hs, (nd S h.1.toNat).p = pa))
      case atStart => exact ⟨0, by omega, by omega, rfl, H7, (fun h => absurd h (Nat.lt_irrefl _) : 0 < 0 → ∀ h ∈ hs, (nd S h.1.toNat).p = pa)⟩
      case round =>
        clear H7
        obtain ⟨k, hk, hg1, rfl, H6, A⟩ := hrel
        have hB6w : Below w.heap.size w wr := (four_below _ _ _ _ _).trans (H6.out.mono (by omega))
        have hs6 := H6.out.size
        simp only [World.size_alloc] at hs6
        obtain ⟨j0, j1, j2, j3, j4, j5, j6⟩ := ins_low4 H6.out
        by_cases hlt : k < m
        · have hm1 : m = 1 := by omega
          have hk0 : k = 0 := by omega
          subst hk0
          subst hm1
          obtain ⟨h, hs1⟩ : ∃ h, hs = [h] := by
            cases hs with
            | nil => exact absurd HM.out (by simp)
            | cons x t =>
              have h1 := HM.out
              rw [List.length_cons] at h1
              have ht : t = [] := List.length_eq_zero_iff.1 (by omega)
              exact ⟨x, by rw [ht]⟩
          obtain ⟨q, hq1, hqn⟩ := HQQ.out h (by rw [hs1]; simp)
          obtain ⟨hb0, ho0, eh, hc0, hc1⟩ := (HH.out.below hB6w) 0 (by rw [hs1]; simp)
          rw [hs1] at hc0 hc1
          simp only [List.getD_cons_zero] at hc0 hc1
          rw [hq1] at hc0
          subst eh
          have x0 : wr.cell? ⟨hb0, ho0, none⟩ = some (.int .i64 (q : Int)) := by simpa using hc0
          have x1 : wr.cell? ⟨hb0, ho0 + 1, none⟩ = some (.int .i64 h.2) := by simpa using hc1
          obtain ⟨b, o, ea, _, _, _, _, qp, _⟩ := (HS.out.below hB6w) q (by rw [HN.out]; exact hqn)
          subst ea
          clear hc0 hc1 A
          have hq2 : (q : Int) < (n : Int) := by omega
          have hbb := World.block_lt_of_cell? _ _ qp
          have hxb := World.block_lt_of_cell? _ _ x0
          have J0 := one_more j0
          have J1 := one_more j1
          have J5 := one_more j5
          have hj5 := World.block_lt_of_cell? _ _ j5
          by_cases hpe : (nd S q).p = (pa : Int)
          · have NX : Hid (0 < (1 : Nat) → ∀ h ∈ hs, (nd S h.1.toNat).p = pa) := fun _ h' hh => by
              rw [hs1, List.mem_singleton] at hh
              rw [hh, hq1, Int.toNat_natCast]
              exact hpe
            rw [hpe] at qp
            have QQ := one_more qp
            clear hpe
            go_wp2_with fail
            go_quiet (fail)
            go_wp2_with fail
            go_roundg 0
            case measure => omega
            case rel => exact ⟨1, by omega, by omega, by go_num, Below.drewNs (H6.out.alloc (by omega) _) _, NX⟩
          · obtain ⟨rfl, rfl⟩ := HA.out ⟨h, by rw [hs1]; simp, by rw [hq1, Int.toNat_natCast]; exact hpe⟩
            clear HKK HA
            generalize (nd S q).p = pq at *
            have hqz : (pq == (pa : Int)) = false := beq_eq_false_iff_ne.2 hpe
            have QQ := one_more qp
            go_wp2_with fail
            go_quiet (fail)
            go_wp2_with fail
            refine bodyPost_ret (v := .tuple #[.agg #[.slice none 0 0], .int .i64 6]) (by simp [results, Tryz.results112, go_sem, J5]) rfl ⟨none, 0, rfl, ?_, fun _ _ _ hi => absurd hi (Nat.not_lt_zero _)⟩
            exact (Below.drewNs (hB6w.alloc hB6w.size _) _).setCell (by simp; omega) _
        · have hke : k = m := by omega
          have hqp : ∀ h ∈ hs, (nd S h.1.toNat).p = pa := by
            cases hs with
            | nil => exact fun _ hh => by cases hh
            | cons x t =>
              have := HM.out
              rw [List.length_cons] at this
              exact A.out (by omega)
          subst hke
          obtain ⟨rfl, hK0, htl, hK⟩ := HKK.out hqp
          have HTL : Hid (T.length = n) := (htl.trans HN.out : T.length = n)
          have DC : Hid _ := fun (W : World) (hW : NdsAt W a S) => copy_any a c S W (by rw [HN.out]; exact hN) hK0 hW
          have DH : Hid _ := fun (W : World) (hW : HandsAt W ha hs) => containsHand_any ha hc hs (ch : Int) cu W (by rw [HM.out]; omega) hW
          have OC : Hid (∀ (wr : World) (B g : Nat) (kb kc : Nat → Nat), Own wr B g S kb kc S.length → B ≤ g ∧ g < wr.heap.size ∧ (∀ b, OwnX g S.length kb b → g ≤ b ∧ b < wr.heap.size)) := fun wr B g kb kc h => by
            obtain ⟨hB, F, hF, hNd, hg, _⟩ := h
            refine ⟨hB, hF.lt, fun b hb => ?_⟩
            rcases hb with rfl | ⟨i, hi, rfl⟩
            · exact ⟨Nat.le_refl _, hF.lt⟩
            · exact ⟨Nat.le_of_lt (hg i hi), (hNd i hi).row⟩
          obtain ⟨bb, hbb⟩ : ∃ bb, decide (((ch : Int), cu) ∈ hs) = bb := ⟨_, rfl⟩
          have HBI : Hid _ := hbb
          rw [hbb, HM.out] at DH
          rw [HN.out] at DC OC
          have HKX : Hid _ := hK
          clear A hqp HKK HA hK hK0 htl hbb HQQ
          go_wp2_with fail
          refine (DC.out _ (HS.out.below hB6w)).mono ?_
          rintro e w7 ⟨g, kb, kc, rfl, hb7, hO7⟩
          obtain ⟨hgB, hgl, hgX⟩ := OC.out _ _ _ _ _ hO7
          have HX : Hid (∀ b, OwnX g n kb b → g ≤ b ∧ b < w7.heap.size) := hgX
          clear hgX
          have hs7 := hb7.size
          have H7 : Hid (Below (w.heap.size + 1 + 1 + 1 + 1) ((((w.alloc (.cells #[.slice a n c] 24)).alloc (.cells #[.int .i64 (pa : Int), .int .i64 pu] 39)).alloc (.cells #[.int .i64 (ch : Int), .int .i64 cu] 39)).alloc (.cells #[.slice none 0 0] 24)) w7) := H6.out.trans (hb7.mono hs6)
          have HO7 : Hid (Own w7 wr.heap.size g S kb kc n) := hO7
          obtain ⟨i0, i1, i2, i3, i4, i5, i6⟩ := ins_low4 H7.out
          have M7 : Hid (∀ w8 o1, Below (w7.heap.size + 1) (w7.alloc o1) w8 → Below (w.heap.size + 1 + 1 + 1 + 1) ((((w.alloc (.cells #[.slice a n c] 24)).alloc (.cells #[.int .i64 (pa : Int), .int .i64 pu] 39)).alloc (.cells #[.int .i64 (ch : Int), .int .i64 cu] 39)).alloc (.cells #[.slice none 0 0] 24)) w8 ∧ Below w7.heap.size w7 w8) := fun w8 o1 h => ⟨(H7.out.alloc (by omega) o1).trans (h.mono (by omega)), ((Below.refl _ _).alloc (Nat.le_refl _) o1).trans (h.mono (by omega))⟩
          have I3 := one_more i3
          have I4 := one_more i4
          clear j0 j1 j2 j3 j4 j5 j6 hb7 hO7
          go_wp2_with fail
          refine (DH.out _ (HH.out.below (((four_below _ _ _ _ _).trans (H7.out.mono (by omega))).alloc (by omega) _))).mono ?_
          rintro e w8 ⟨rfl, hb8⟩
          simp only [World.size_alloc] at hb8
          have b8 : w8.cell? ⟨w7.heap.size, 0, none⟩ = some (.slice (some ⟨g, 0, none⟩) n n) := store_low hb8
          obtain ⟨H8, hb78⟩ := M7.out _ _ hb8
          have hs8 := hb8.size
          simp only [World.size_alloc] at hs8
          have HH8 : Hid (Below (w.heap.size + 1 + 1 + 1 + 1) ((((w.alloc (.cells #[.slice a n c] 24)).alloc (.cells #[.int .i64 (pa : Int), .int .i64 pu] 39)).alloc (.cells #[.int .i64 (ch : Int), .int .i64 cu] 39)).alloc (.cells #[.slice none 0 0] 24)) w8) := H8
          have HO8 : Hid (Own w8 wr.heap.size g S kb kc n) := Own.below HO7.out hb78
          clear i0 i1 i2 i3 i4 i5 i6 hb8 I3 I4
          obtain ⟨i0, i1, i2, i3, i4, i5, i6⟩ := ins_low4 H8
          clear H8
          have hkx := HKX.out
          clear HKX
          rcases hkx with ⟨hin, hT⟩ | ⟨hin, hne, hp0, at', hat, hatL, hT⟩
          · have hbt : bb = true := HBI.out.symm.trans (decide_eq_true hin)
            subst hbt
            have HT : Hid (T = S) := hT
            clear hin hT
            have HB8 : Hid (Below w.heap.size w w8) := (four_below _ _ _ _ _).trans (HH8.out.mono (by omega))
            have NS : Hid (∀ v (w3 : World), (∀ b, g ≤ b → w3.heap[b]? = (w8.setCell ⟨w.heap.size + 1 + 1 + 1, 0, none⟩ v).heap[b]?) → NdsAt w3 (some ⟨g, 0, none⟩) S) := fun v w3 hup => Own.up (kb := kb) (kc := kc) (B := wr.heap.size) (by rw [HN.out]; exact HO8.out) _ (fun b hb => (hup b hb).trans (Below.heap_setCell _ _ _ _ (by show b ≠ w.heap.size + 1 + 1 + 1; omega)))
            go_wp2_with fail
            refine bodyPost_ret (v := .tuple #[.agg #[.slice (some ⟨g, 0, none⟩) n n], .int .i64 0]) (by simp [results, Tryz.results112, go_sem, i5]) rfl ⟨some ⟨g, 0, none⟩, n, by rw [HTL.out], HB8.out.setCell (by simp; omega) _, fun w3 h3 => by rw [HT.out]; exact NS.out _ w3 (fun b hb => h3 b (by have := hB6w.size; omega))⟩
          · have hbt : bb = false := HBI.out.symm.trans (decide_eq_false hin)
            subst hbt
            have HT : Hid (T = enterS (leaveG S ch) pa ch at') := hT
            have DE : Hid _ := fun (B g c : Nat) (kb kc : Nat → Nat) (W : World) (hO : Own W B g (leaveG S ch) kb kc (leaveG S ch).length) (hW : HandsAt W ha hs) => enter_any B g c (leaveG S ch) kb kc pa ch at' ha hc hs W hO (by rw [leaveG_length, HN.out]; exact hpa) (by rw [leaveG_length, HN.out]; exact hch) hne (by rw [HM.out]; exact hm) hW hat hatL
            have DL : Hid _ := fun (B g c : Nat) (kb kc : Nat → Nat) (W : World) (hO : Own W B g S kb kc S.length) => leave_gen B g c S kb kc ch W hO (by rw [HN.out]; exact hch) hp0
            simp only [leaveG_length, HN.out, HM.out] at DE DL
            have OP : Hid (∀ g kb b, b = g ∨ b = kb pa → OwnX g n kb b) := fun g kb b hb => by
              rcases hb with hb | hb
              · exact Or.inl hb
              · exact Or.inr ⟨pa, hpa, hb⟩
            clear hin hT hp0 hat hatL
            go_wp2_with fail
            refine (DL.out _ g n kb kc _ HO8.out).mono ?_
            rintro e w9 ⟨rfl, hoff9, hO9⟩
            have hs9 := hoff9.size
            have b9 := (hoff9.cell (World.block_lt_of_cell? _ _ b8) (fun h => by have := HX.out _ h; simp at this)).trans b8
            have H9 : Below (w.heap.size + 1 + 1 + 1 + 1) ((((w.alloc (.cells #[.slice a n c] 24)).alloc (.cells #[.int .i64 (pa : Int), .int .i64 pu] 39)).alloc (.cells #[.int .i64 (ch : Int), .int .i64 cu] 39)).alloc (.cells #[.slice none 0 0] 24)) w9 := HH8.out.trans (hoff9.below (by omega) (fun k hk => by have := HX.out _ hk; omega))
            have HO9 : Hid (Own w9 wr.heap.size g (leaveG S ch) kb kc n) := hO9
            have HH9 : Hid (Below (w.heap.size + 1 + 1 + 1 + 1) ((((w.alloc (.cells #[.slice a n c] 24)).alloc (.cells #[.int .i64 (pa : Int), .int .i64 pu] 39)).alloc (.cells #[.int .i64 (ch : Int), .int .i64 cu] 39)).alloc (.cells #[.slice none 0 0] 24)) w9) := H9
            clear i0 i1 i2 i3 i4 i5 i6 b8 hoff9 hO9
            obtain ⟨i0, i1, i2, i3, i4, i5, i6⟩ := ins_low4 H9
            clear H9
            go_wp2_with fail
            refine (DE.out _ g n kb kc _ HO9.out (HH.out.below ((four_below _ _ _ _ _).trans (HH9.out.mono (by omega))))).mono ?_
            rintro e w10 ⟨rfl, hoff, hnds⟩
            have hXp : ∀ b, b = g ∨ b = kb pa → g ≤ b ∧ b < w7.heap.size := fun b hb => HX.out b (OP.out g kb b hb)
            have b10 := (hoff.cell (World.block_lt_of_cell? _ _ b9) (fun h => by have := hXp _ h; simp at this)).trans b9
            have r10 := (hoff.cell (World.block_lt_of_cell? _ _ i5) (fun h => by have := hXp _ h; dsimp only at this; omega)).trans i5
            have f10 := fun o => (hoff.frozen (p := ⟨w.heap.size + 1 + 1 + 1, o, none⟩) (World.block_lt_of_cell? w9 ⟨w.heap.size + 1 + 1 + 1, 0, none⟩ i5) (fun h => by have := hXp _ h; dsimp only at this; omega)).trans (i6 o)
            have HNDS : Hid _ := hnds
            have HB10 : Hid (Below w.heap.size w w10) := ((four_below _ _ _ _ _).trans (HH9.out.mono (by omega))).trans (hoff.below (by have := HH9.out.size; simp at this; omega) (fun k hk => by have := hXp _ hk; omega))
            have NS : Hid (∀ v (w3 : World), (∀ b, g ≤ b → w3.heap[b]? = (w10.setCell ⟨w.heap.size + 1 + 1 + 1, 0, none⟩ v).heap[b]?) → NdsAt w3 (some ⟨g, 0, none⟩) (enterS (leaveG S ch) pa ch at')) := fun v w3 hup => HNDS.out _ (fun b hb => (hup b hb).trans (Below.heap_setCell _ _ _ _ (by show b ≠ w.heap.size + 1 + 1 + 1; omega)))
            clear hnds hoff i0 i1 i2 i3 i4 i5 i6 b9 hXp
            go_wp2_with fail
            refine bodyPost_ret (v := .tuple #[.agg #[.slice (some ⟨g, 0, none⟩) n n], .int .i64 0]) (by simp [results, Tryz.results112, go_sem, r10]) rfl ⟨some ⟨g, 0, none⟩, n, by rw [HTL.out], HB10.out.setCell (by simp; omega) _, fun w3 h3 => by rw [HT.out]; exact NS.out _ w3 (fun b hb => h3 b (by have := hB6w.size; omega))⟩
end Go.Proofs.YtgjfmepbphfjoaaGreat
