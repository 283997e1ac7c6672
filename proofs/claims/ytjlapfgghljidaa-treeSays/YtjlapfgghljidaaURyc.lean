/-
  The reference's Inserted, where the node is put elsewhere.
-/
import Derived.Test.YtjlapfgghljidaaURy
namespace Go.Proofs.Ytjlapfgghljidaa
open Go.RowKit

set_option maxRecDepth 100000 in
set_option maxHeartbeats 8000000 in
theorem rIns_ok (a : Option Addr) (c : Nat) (S : List Nd) (pa ch : Nat) (pu cu : Int) (ha : Option Addr) (hc : Nat) (hs : List (Int × Int)) (w : World) (hN : S.length ≤ 24) (hC : RChk a c S) (hS : NdsAt w a S) (hH : HandsAt w ha hs) (hm : hs.length ≤ 1) (hE : tcheckE S (((pa : Int), pu) :: ((ch : Int), cu) :: hs) = 0) (hpa : pa < S.length) (hch : ch < S.length) (hfit : fitsB S ch pa = true) (hQ : ∀ h ∈ hs, ∃ q : Nat, h.1 = q ∧ q < S.length) (hK0 : ∀ i, i < S.length → (nd S i).ks.length ≤ 1000) (hqp : ∀ h ∈ hs, (nd S h.1.toNat).p = pa) (hnx0 : nextI hs ≠ ch) (hnl : -1 ≤ nextI hs) (hne : pa ≠ ch) (hp0 : (nd S ch).p = -1 ∨ ∃ p0 : Nat, p0 < S.length ∧ p0 ≠ ch ∧ (nd S ch).p = p0) (at' : Nat) (hat : insL (nextI hs) ch (nd (leaveG S ch) pa).ks ++ (if nextI hs = -1 then [(ch : Int)] else []) = ins (nd (leaveG S ch) pa).ks at' ch) (hkl0 : (nd (leaveG S ch) pa).ks.length ≤ 1000) :
    Calls Try.prog 28 #[.agg #[.slice a S.length c], .agg #[.int .i64 (pa : Int), .int .i64 pu], .agg #[.int .i64 (ch : Int), .int .i64 cu], .slice ha hs.length hc] w fun e w' => ∃ a' c', e = .returned (.tuple #[.agg #[.slice a' S.length c'], .int .i64 0]) ∧ Below w.heap.size w w' ∧ NdsAt w' a' (enterS (leaveG S ch) pa ch at') := by
  have df := fun (W : World) (ha' : Option Addr) (hcc : Nat) (hW : NdsAt W a S) (hH' : HandsAt W ha' (((pa : Int), pu) :: ((ch : Int), cu) :: hs)) => rFirst_any a c S ha' hcc (((pa : Int), pu) :: ((ch : Int), cu) :: hs) W (by omega) hC hW (by simp; omega) hH'
  rw [hE] at df
  have DF : Hid (∀ (W : World) (ha' : Option Addr) (hcc : Nat), NdsAt W a S → HandsAt W ha' (((pa : Int), pu) :: ((ch : Int), cu) :: hs) → Calls Try.prog 47 #[.agg #[.slice a S.length c], .slice ha' (hs.length + 2) hcc] W fun e w' => e = .returned (.int .i64 0) ∧ Below W.heap.size W w') := df
  have HS : Hid (NdsAt w a S) := hS
  have HH : Hid (HandsAt w ha hs) := hH
  have DB : Hid _ := insBad_any
  obtain ⟨i0, hi0, hz0, hz1, hz2⟩ := info_parts info26
  clear hS hC df hE hH
  obtain ⟨m, hml⟩ : ∃ m, hs.length = m := ⟨_, rfl⟩
  have HM : Hid (hs.length = m) := hml
  rw [hml] at hm DF ⊢
  have hm2 : ¬ (1 : Int) < (m : Int) := by omega
  have hm3 : decide ((1 : Int) < (m : Int)) = false := decide_eq_false hm2
  obtain ⟨n, hn⟩ : ∃ n, S.length = n := ⟨_, rfl⟩
  have HN : Hid (S.length = n) := hn
  clear hml
  have dl := fun (W : World) (hW : NdsAt W a S) => rLine_any a c S (pa : Int) W hN hW
  rw [line_pathI hpa] at dl
  have DL : Hid _ := dl
  have PB : Hid ((pathF S pa).length ≤ 25) := Nat.le_trans (path_len S pa) (by omega)
  clear dl
  have hfp := fits_path (S := S) (ch := ch) hpa
  rw [hfit] at hfp
  have hh1 : (nd S ch).h = -1 ∧ decide ((ch : Int) ∈ pathF S pa) = false := by
    by_cases h : (nd S ch).h = -1
    · refine ⟨h, ?_⟩
      cases h2 : decide ((ch : Int) ∈ pathF S pa) with
      | false => rfl
      | true => rw [h2] at hfp; simp at hfp
    · rw [decide_eq_false h] at hfp; simp at hfp
  have HH1 : Hid _ := hh1.1
  have HIN : Hid _ := hh1.2
  clear hh1
  have HQQ : Hid (∀ h ∈ hs, ∃ q : Nat, h.1 = q ∧ q < S.length) := hQ
  clear hfp hfit hQ
  have DO : Hid (∀ W, NdsAt W a S → Calls _ _ _ _ _) := fun W hW => rOwn_any a c S W (by omega) (fun i hi => by have := hK0 i hi; omega) hW
  have HKS : Hid _ := hK0
  have HQP : Hid _ := hqp
  clear hK0 hqp
  obtain ⟨j0, hj0, hy0, hy1, hy2⟩ := info_parts info3
  have HNX : Hid (nextI hs ≠ ch) := hnx0
  have HNL : Hid (-1 ≤ nextI hs) := hnl
  have HP0 : Hid _ := hp0
  have HKE : Hid _ := hat
  have HKL : Hid _ := hkl0
  have MK : Hid _ := (moveS_ks hp0 hpa hch hne).2
  have ES : Hid _ := enter_sets (at' := at') hp0 hpa hch hne
  rw [hn] at hN hpa hch DF DL HQQ DO ⊢
  clear hn hnx0 hnl hp0 hat hkl0
  go_enter Try.func28, Try.ntmps28
  go_upto_region 4 with fail
  obtain ⟨W4, hW4⟩ : ∃ W4, W4 = ((((w.alloc (.cells #[.slice a n c] 24)).alloc (.cells #[.int .i64 (pa : Int), .int .i64 pu] 26)).alloc (.cells #[.int .i64 (ch : Int), .int .i64 cu] 26)).alloc (.cells #[.slice none 0 0] 24)) := ⟨_, rfl⟩
  rw [← hW4]
  have hb4 : Below (w.heap.size + 1 + 1 + 1 + 1) ((((w.alloc (.cells #[.slice a n c] 24)).alloc (.cells #[.int .i64 (pa : Int), .int .i64 pu] 26)).alloc (.cells #[.int .i64 (ch : Int), .int .i64 cu] 26)).alloc (.cells #[.slice none 0 0] 24)) W4 := by rw [hW4]; exact Below.refl _ _
  obtain ⟨l0, l1, l2, l3, l4, l5, l6⟩ := ins_low4 hb4
  have hsz4 : W4.heap.size = w.heap.size + 1 + 1 + 1 + 1 := by rw [hW4]; simp
  have HB4 : Hid (Below w.heap.size w W4) := (four_below _ _ _ _ _).trans (hb4.mono (by omega))
  have HBB : Hid (Below (w.heap.size + 1 + 1 + 1 + 1) ((((w.alloc (.cells #[.slice a n c] 24)).alloc (.cells #[.int .i64 (pa : Int), .int .i64 pu] 26)).alloc (.cells #[.int .i64 (ch : Int), .int .i64 cu] 26)).alloc (.cells #[.slice none 0 0] 24)) W4) := hb4
  clear hW4 hb4
  go_cut [11] (fun s11 wx => s11 = .int .i64 0 ∧ Hid (Below (w.heap.size + 1 + 1 + 1 + 1) ((((w.alloc (.cells #[.slice a n c] 24)).alloc (.cells #[.int .i64 (pa : Int), .int .i64 pu] 26)).alloc (.cells #[.int .i64 (ch : Int), .int .i64 cu] 26)).alloc (.cells #[.slice none 0 0] 24)) wx))
  case first =>
    have ne0 := World.new_ne W4 _ l0
    have ne1 := World.new_ne W4 _ l1
    have ne2 := World.new_ne W4 _ l2
    have ne3 := World.new_ne W4 _ l3
    have ne4 := World.new_ne W4 _ l4
    cases hs with
    | nil =>
      have e0 : m = 0 := HM.out.symm
      subst e0
      cases ha with
      | none =>
        go_region_held3 (fun w'' => w''.cell? ⟨w.heap.size, 0, none⟩ = some (.slice a n c) ∧ w''.cell? ⟨w.heap.size + 1, 0, none⟩ = some (.int .i64 (pa : Int)) ∧ w''.cell? ⟨w.heap.size + 1, 1, none⟩ = some (.int .i64 pu) ∧ w''.cell? ⟨w.heap.size + 1 + 1, 0, none⟩ = some (.int .i64 (ch : Int)) ∧ w''.cell? ⟨w.heap.size + 1 + 1, 1, none⟩ = some (.int .i64 cu)) (go_keep) (first | (go_at_call 47; refine (DF.out _ _ 2 (HS.out.below (HB4.out.alloc (by omega) _).drew) (hands_two _ _ _ _ _ _ (by go_simp) (by go_simp) (by go_simp) (by go_simp))).mono ?_; rintro e w6 ⟨rfl, hb5⟩; have hB5 : Below (w.heap.size + 1 + 1 + 1 + 1) ((((w.alloc (.cells #[.slice a n c] 24)).alloc (.cells #[.int .i64 (pa : Int), .int .i64 pu] 26)).alloc (.cells #[.int .i64 (ch : Int), .int .i64 cu] 26)).alloc (.cells #[.slice none 0 0] 24)) w6 := (HBB.out.alloc (by omega) _).drew.trans (hb5.mono (by simp; omega)); obtain ⟨m0, m1, m2, m3, m4, m5, m6⟩ := ins_low4 hB5; have H6 : Hid (Below (w.heap.size + 1 + 1 + 1 + 1) ((((w.alloc (.cells #[.slice a n c] 24)).alloc (.cells #[.int .i64 (pa : Int), .int .i64 pu] 26)).alloc (.cells #[.int .i64 (ch : Int), .int .i64 cu] 26)).alloc (.cells #[.slice none 0 0] 24)) w6) := hB5; clear hb5 hB5))
        go_wp2_with fail
        go_meet
        case rel => exact ⟨rfl, H6⟩
      | some A0 =>
        go_region_held3 (fun w'' => w''.cell? ⟨w.heap.size, 0, none⟩ = some (.slice a n c) ∧ w''.cell? ⟨w.heap.size + 1, 0, none⟩ = some (.int .i64 (pa : Int)) ∧ w''.cell? ⟨w.heap.size + 1, 1, none⟩ = some (.int .i64 pu) ∧ w''.cell? ⟨w.heap.size + 1 + 1, 0, none⟩ = some (.int .i64 (ch : Int)) ∧ w''.cell? ⟨w.heap.size + 1 + 1, 1, none⟩ = some (.int .i64 cu)) (go_keep) (first | (go_at_call 47; refine (DF.out _ _ 2 (HS.out.below (HB4.out.alloc (by omega) _).drew) (hands_two _ _ _ _ _ _ (by go_simp) (by go_simp) (by go_simp) (by go_simp))).mono ?_; rintro e w6 ⟨rfl, hb5⟩; have hB5 : Below (w.heap.size + 1 + 1 + 1 + 1) ((((w.alloc (.cells #[.slice a n c] 24)).alloc (.cells #[.int .i64 (pa : Int), .int .i64 pu] 26)).alloc (.cells #[.int .i64 (ch : Int), .int .i64 cu] 26)).alloc (.cells #[.slice none 0 0] 24)) w6 := (HBB.out.alloc (by omega) _).drew.trans (hb5.mono (by simp; omega)); obtain ⟨m0, m1, m2, m3, m4, m5, m6⟩ := ins_low4 hB5; have H6 : Hid (Below (w.heap.size + 1 + 1 + 1 + 1) ((((w.alloc (.cells #[.slice a n c] 24)).alloc (.cells #[.int .i64 (pa : Int), .int .i64 pu] 26)).alloc (.cells #[.int .i64 (ch : Int), .int .i64 cu] 26)).alloc (.cells #[.slice none 0 0] 24)) w6) := hB5; clear hb5 hB5))
        go_wp2_with fail
        go_meet
        case rel => exact ⟨rfl, H6⟩
    | cons h t =>
      have e0 : t = [] ∧ m = 1 := by
        have h1 := HM.out
        rw [List.length_cons] at h1
        exact ⟨List.length_eq_zero_iff.1 (by omega), by omega⟩
      obtain ⟨e0, e1⟩ := e0
      subst e0
      subst e1
      obtain ⟨Q, qu⟩ := h
      obtain ⟨hb0, ho0, eh, _, _⟩ := HH.out 0 (by simp)
      subst eh
      have HC : Hid (∀ W, HandsAt W (some ⟨hb0, ho0, none⟩) [(Q, qu)] → W.cell? ⟨hb0, ho0, none⟩ = some (.int .i64 Q) ∧ W.cell? ⟨hb0, ho0 + 1, none⟩ = some (.int .i64 qu)) := fun W hW => by
        obtain ⟨b, o, e, h1, h2⟩ := hW 0 (by simp)
        cases e
        exact ⟨by simpa using h1, by simpa using h2⟩
      have HOLDS : Hid (∀ b, some (⟨w.heap.size + 1 + 1 + 1 + 1, 0, none⟩ : Addr) = some b → ∀ j u, ([.int .i64 (pa : Int), .int .i64 pu, .int .i64 (ch : Int), .int .i64 cu] : List Value)[j]? = some u → ((W4.alloc (.cells #[.int .i64 (pa : Int), .int .i64 pu, .int .i64 (ch : Int), .int .i64 cu] 26)).drew).cell? (b.add j) = some u) := fun b hb j u hj => by
        cases hb
        rw [Addr.add_lit, ← hsz4]
        match j, hj with
        | 0, hj => cases hj; go_simp
        | 1, hj => cases hj; go_simp
        | 2, hj => cases hj; go_simp
        | 3, hj => cases hj; go_simp
      have NEWS : Hid (∀ j u, ([.int .i64 Q, .int .i64 qu] : List Value)[j]? = some u → ((W4.alloc (.cells #[.int .i64 (pa : Int), .int .i64 pu, .int .i64 (ch : Int), .int .i64 cu] 26)).drew).cell? ((⟨hb0, ho0, none⟩ : Addr).add j) = some u) := fun j u hj => by
        obtain ⟨c0, c1⟩ := HC.out _ (HH.out.below (HB4.out.alloc (by omega) (.cells #[.int .i64 (pa : Int), .int .i64 pu, .int .i64 (ch : Int), .int .i64 cu] 26)).drew)
        rw [Addr.add_lit]
        match j, hj with
        | 0, hj => cases hj; exact c0
        | 1, hj => cases hj; exact c1
      go_region_held3 (fun w'' => w''.cell? ⟨w.heap.size, 0, none⟩ = some (.slice a n c) ∧ w''.cell? ⟨w.heap.size + 1, 0, none⟩ = some (.int .i64 (pa : Int)) ∧ w''.cell? ⟨w.heap.size + 1, 1, none⟩ = some (.int .i64 pu) ∧ w''.cell? ⟨w.heap.size + 1 + 1, 0, none⟩ = some (.int .i64 (ch : Int)) ∧ w''.cell? ⟨w.heap.size + 1 + 1, 1, none⟩ = some (.int .i64 cu)) (go_keep) (first
        | (refine step_append_grows rfl (.tmp 31) (.tmp 32) 48 rfl 26 i0 (.agg #[.int .i64 0, .int .i64 0]) 2 16 Try.underlying48 hi0 hz0 hz1 hz2 rfl (by decide) (some ⟨w.heap.size + 1 + 1 + 1 + 1, 0, none⟩) 2 2 [.int .i64 (pa : Int), .int .i64 pu, .int .i64 (ch : Int), .int .i64 cu] rfl (fun h => by cases h) rfl HOLDS.out ⟨hb0, ho0, none⟩ 1 hc [.int .i64 Q, .int .i64 qu] rfl rfl NEWS.out (by intro u hu; simp at hu; rcases hu with rfl | rfl <;> rfl) (by decide) (by decide) (by decide) ?_; intro v5 w5 hown5 hgrow5; have hB5 : Below (w.heap.size + 1 + 1 + 1 + 1) ((((w.alloc (.cells #[.slice a n c] 24)).alloc (.cells #[.int .i64 (pa : Int), .int .i64 pu] 26)).alloc (.cells #[.int .i64 (ch : Int), .int .i64 cu] 26)).alloc (.cells #[.slice none 0 0] 24)) w5 := (HBB.out.alloc (by omega) _).drew.grown hgrow5 (by simp; omega) (fun k hk => by cases hk); obtain ⟨k0, k1, k2, k3, k4, k5, k6⟩ := ins_low4 hB5; obtain ⟨ha5, hc5, hv5, hh5⟩ := hands_own hown5; subst hv5; have HH5 : Hid (HandsAt w5 ha5 [((pa : Int), pu), ((ch : Int), cu), (Q, qu)]) := hh5; have H5 : Hid (Below (w.heap.size + 1 + 1 + 1 + 1) ((((w.alloc (.cells #[.slice a n c] 24)).alloc (.cells #[.int .i64 (pa : Int), .int .i64 pu] 26)).alloc (.cells #[.int .i64 (ch : Int), .int .i64 cu] 26)).alloc (.cells #[.slice none 0 0] 24)) w5) := hB5; clear hown5 hgrow5 hB5 hh5)
        | (go_at_call 47; refine (DF.out _ _ _ (HS.out.below ((four_below _ _ _ _ _).trans (H5.out.mono (by omega)))) HH5.out).mono ?_; rintro e w6 ⟨rfl, hb6⟩; have hs5 := H5.out.size; simp only [World.size_alloc] at hs5; have hB6 : Below (w.heap.size + 1 + 1 + 1 + 1) ((((w.alloc (.cells #[.slice a n c] 24)).alloc (.cells #[.int .i64 (pa : Int), .int .i64 pu] 26)).alloc (.cells #[.int .i64 (ch : Int), .int .i64 cu] 26)).alloc (.cells #[.slice none 0 0] 24)) w6 := H5.out.trans (hb6.mono hs5); obtain ⟨m0, m1, m2, m3, m4, m5, m6⟩ := ins_low4 hB6; have H6 : Hid (Below (w.heap.size + 1 + 1 + 1 + 1) ((((w.alloc (.cells #[.slice a n c] 24)).alloc (.cells #[.int .i64 (pa : Int), .int .i64 pu] 26)).alloc (.cells #[.int .i64 (ch : Int), .int .i64 cu] 26)).alloc (.cells #[.slice none 0 0] 24)) w6) := hB6; clear hb6 hB6))
      go_wp2_with fail
      go_meet
      case rel => exact ⟨rfl, H6⟩
  case rest =>
  obtain ⟨rfl, H6⟩ := hcut
  clear l0 l1 l2 l3 l4 l5 l6 hsz4 HB4 HBB DF
  obtain ⟨w6, rfl⟩ : ∃ W, W = wc := ⟨_, rfl⟩
  obtain ⟨⟨l0, l1, l2, l3⟩, ⟨z0, z3⟩, hsz, hB⟩ := rins_low H6.out
  have HB6 : Hid _ := hB
  clear hB
  have q0 : w.heap.size < w6.heap.size := by omega
  have q1 : w.heap.size + 1 < w6.heap.size := by omega
  have q2 : w.heap.size + 1 + 1 < w6.heap.size := by omega
  go_upto_region 7 with fail
  go_cut [12, 13] (fun s12 s13 wx => s12 = .int .i64 (pa : Int) ∧ s13 = .int .i64 (ch : Int) ∧ Hid (Below (w.heap.size + 1 + 1 + 1 + 1) ((((w.alloc (.cells #[.slice a n c] 24)).alloc (.cells #[.int .i64 (pa : Int), .int .i64 pu] 26)).alloc (.cells #[.int .i64 (ch : Int), .int .i64 cu] 26)).alloc (.cells #[.slice none 0 0] 24)) wx))
  case first =>
    go_region
    all_goals (go_wp2_with fail; go_meet)
    all_goals first | exact ⟨rfl, rfl, (H6.out.drew : Below _ _ _)⟩ | exact ⟨rfl, rfl, H6⟩
  case rest =>
  obtain ⟨rfl, rfl, H7⟩ := hcut
  obtain ⟨w7, rfl⟩ : ∃ W, W = wc := ⟨_, rfl⟩
  clear l0 l1 l2 l3 z0 z3 hsz HB6 q0 q1 q2 H6
  obtain ⟨⟨l0, l1, l2, l3⟩, ⟨z0, z3⟩, hsz, hB⟩ := rins_low H7.out
  have HB7 : Hid _ := hB
  clear hB
  have q0 : w.heap.size < w7.heap.size := by omega
  have hch2 : (ch : Int) < (n : Int) := by omega
  obtain ⟨nb, no, ea, _, _, _, _, _, _, c6, _⟩ := (HS.out.below HB7.out) ch (by rw [HN.out]; exact hch)
  subst ea
  have hnb := World.block_lt_of_cell? _ _ c6
  rw [HH1.out] at c6
  go_wp2_with fail
  refine Calls.mono (DL.out _ (HS.out.below HB7.out)) ?_
  rintro e w8 ⟨v8, rfl, hb8, hown8⟩
  have hown8' : w8.ownsRow w7.heap.size 3 1 v8 (pathF S pa).length ((pathF S pa).map (Value.int .i64)) := hown8
  obtain ⟨pa8, pc8, hv8, hi8, _⟩ := own_slice hown8'
  have H8 : Hid (Below (w.heap.size + 1 + 1 + 1 + 1) ((((w.alloc (.cells #[.slice (some ⟨nb, no, none⟩) n c] 24)).alloc (.cells #[.int .i64 (pa : Int), .int .i64 pu] 26)).alloc (.cells #[.int .i64 (ch : Int), .int .i64 cu] 26)).alloc (.cells #[.slice none 0 0] 24)) w8) := H7.out.trans (hb8.mono (by omega))
  have DCo : Hid (Calls Try.prog 35 #[.slice pa8 (pathF S pa).length pc8, .int .i64 (ch : Int)] w8 fun e w' => e = .returned (.bool (decide ((ch : Int) ∈ pathF S pa))) ∧ w' = w8) := contains_any pa8 pc8 (pathF S pa) (ch : Int) w8 (by have := PB.out; omega) hi8
  rw [HIN.out] at DCo
  subst hv8
  clear hb8 hown8 hown8' hi8 l0 l1 l2 l3 z0 z3 q0 c6
  generalize (pathF S pa).length = LP at *
  go_wp2_with fail
  refine Calls.mono DCo.out ?_
  rintro e w8b ⟨rfl, hw8⟩
  subst hw8
  clear DL PB DCo HIN HB7 H7 hsz hnb
  go_wp2_with fail
  go_loopg [14, 66] (m + 1) (fun g s14 s66 wr => ∃ (i : Nat) (tv : Int), i ≤ m ∧ m - i < g ∧ s66 = .int .i64 i ∧ s14 = .int .i64 tv ∧ Hid (Below (w.heap.size + 1 + 1 + 1 + 1) ((((w.alloc (.cells #[.slice (some ⟨nb, no, none⟩) n c] 24)).alloc (.cells #[.int .i64 (pa : Int), .int .i64 pu] 26)).alloc (.cells #[.int .i64 (ch : Int), .int .i64 cu] 26)).alloc (.cells #[.slice none 0 0] 24)) wr) ∧ Hid ((i = 0 → tv = -1) ∧ (0 < i → tv = nextI hs)))
  case atStart => exact ⟨0, -1, by omega, by omega, rfl, rfl, H8, (⟨fun _ => rfl, fun h => absurd h (Nat.lt_irrefl _)⟩ : ((0 : Nat) = 0 → (-1 : Int) = -1) ∧ (0 < (0 : Nat) → (-1 : Int) = nextI hs))⟩
  case round =>
    clear H8
    obtain ⟨i, tv, hi, hg, rfl, rfl, HB, A⟩ := hrel
    obtain ⟨⟨l0, l1, l2, l3⟩, ⟨z0, z3⟩, hsz, hBw⟩ := rins_low HB.out
    have HBw : Hid _ := hBw
    clear hBw
    have q0 : w.heap.size < wr.heap.size := by omega
    have q1 : w.heap.size + 1 < wr.heap.size := by omega
    have q2 : w.heap.size + 1 + 1 < wr.heap.size := by omega
    have q3 : w.heap.size + 1 + 1 + 1 < wr.heap.size := by omega
    by_cases hlt : i < m
    · have hm1 : m = 1 := by omega
      have hi0' : i = 0 := by omega
      subst hi0'
      subst hm1
      obtain ⟨h, hs1⟩ : ∃ h, hs = [h] := by
        cases hs with
        | nil => exact absurd HM.out (by simp)
        | cons x t =>
          have h1 := HM.out
          rw [List.length_cons] at h1
          have ht : t = [] := List.length_eq_zero_iff.1 (by omega)
          exact ⟨x, by rw [ht]⟩
      obtain ⟨q, hq1, hqn⟩ := HQQ.out h (by rw [hs1]; simp)
      obtain ⟨hb0, ho0, eh, hc0, hc1⟩ := (HH.out.below HBw.out) 0 (by rw [hs1]; simp)
      rw [hs1] at hc0 hc1
      simp only [List.getD_cons_zero] at hc0 hc1
      rw [hq1] at hc0
      subst eh
      have hc0' : wr.cell? ⟨hb0, ho0, none⟩ = some (.int .i64 (q : Int)) := by simpa using hc0
      have hc1' : wr.cell? ⟨hb0, ho0 + 1, none⟩ = some (.int .i64 h.2) := by simpa using hc1
      have hbl := World.block_lt_of_cell? _ _ hc0'
      clear hc0 hc1
      have hq2 : (q : Int) < (n : Int) := by omega
      obtain ⟨nb', no', ea', _, _, _, _, c4, _, _, _⟩ := (HS.out.below HBw.out) q (by rw [HN.out]; exact hqn)
      cases ea'
      have hnb' := World.block_lt_of_cell? _ _ c4
      have hpe : (nd S q).p = (pa : Int) := by
        have := HQP.out h (by rw [hs1]; simp)
        rw [hq1, Int.toNat_natCast] at this
        exact this
      rw [hpe] at c4
      have NX : Hid (((0 + 1 : Nat) = 0 → (q : Int) = -1) ∧ (0 < (0 + 1 : Nat) → (q : Int) = nextI hs)) := ⟨fun h => absurd h (by omega), fun _ => by rw [hs1]; exact hq1.symm⟩
      clear A hpe
      go_wp2_with fail
      go_roundg 1
      case measure => omega
      case rel => exact ⟨0 + 1, q, by omega, by omega, by go_num, rfl, HB.out.alloc (by omega) _, NX⟩
    · have hie : i = m := by omega
      have htv : tv = nextI hs := by
        cases hs with
        | nil =>
          have : m = 0 := HM.out.symm
          exact A.out.1 (by omega)
        | cons x t =>
          have := HM.out
          rw [List.length_cons] at this
          exact A.out.2 (by omega)
      subst hie
      subst htv
      clear A
      go_wp2_with fail
      refine Calls.mono (DO.out _ (HS.out.below HBw.out)) ?_
      rintro e w2 ⟨v, KK, rfl, hb2, hown⟩
      obtain ⟨g, cap, rfl, hg1, hg2, hcap, hcm, hO⟩ := own_afterG (b0 := w.heap.size) (by omega) q0 hown
      have m0 := keepC l0 hb2
      have m2 := keepC l2 hb2
      have m3 := keepC l3 hb2
      have y0 : w2.frozen? ⟨w.heap.size, 0, none⟩ = false := (hb2.frozen (p := ⟨w.heap.size, 0, none⟩) q0).trans (z0 0)
      have y3 : w2.frozen? ⟨w.heap.size + 1 + 1 + 1, 0, none⟩ = false := (hb2.frozen (p := ⟨w.heap.size + 1 + 1 + 1, 0, none⟩) q3).trans (z3 0)
      obtain ⟨W3, hW3⟩ : ∃ W3, w2.setCell ⟨w.heap.size, 0, none⟩ (.slice (some ⟨g, 0, none⟩) n cap) = W3 := ⟨_, rfl⟩
      have HO3 : Hid (OwnK wr.heap.size S n KK (.slice (some ⟨g, 0, none⟩) n cap) W3) := by rw [← hW3]; exact hO
      have HB3 : Hid (Below w.heap.size w W3) := by rw [← hW3]; exact (HBw.out.trans (hb2.mono (by omega))).setCell (by simp) _
      have hs3 : W3.heap.size = w2.heap.size := by rw [← hW3]; simp
      have hs2 := hb2.size
      have s0 : W3.cell? ⟨w.heap.size, 0, none⟩ = some (.slice (some ⟨g, 0, none⟩) n cap) := by rw [← hW3]; exact World.cell?_setCell_same _ _ _ m0
      have s3 : W3.cell? ⟨w.heap.size + 1 + 1 + 1, 0, none⟩ = some (.slice none 0 0) := by rw [← hW3]; exact cell_else (by omega) m3
      have f3 : W3.frozen? ⟨w.heap.size + 1 + 1 + 1, 0, none⟩ = false := by rw [← hW3]; exact frozen_else y3
      clear hO hown hb2 l0 l1 l2 l3 z0 z3 m2 m3 y3 DO
      go_upto_region 19 with fail
      try rw [hW3]
      clear hW3 m0 y0
      have hx : nextI hs ≠ (ch : Int) := HNX.out
      have hx0 : -1 ≤ nextI hs := HNL.out
      obtain ⟨nx, hnx⟩ : ∃ nx, nextI hs = nx := ⟨_, rfl⟩
      rw [hnx] at hx hx0 HKE ⊢
      clear hnx
      have hxb : (nx == (ch : Int)) = false := beq_eq_false_iff_ne.2 hx
      have hxd : decide (nx = (ch : Int)) = false := decide_eq_false hx
      have r4 : W3.cell? ⟨g, ch * 8 + 4, none⟩ = some (.int .i64 (nd S ch).p) := HO3.out.cellAt (i := ch) (j := 4) hch (by omega)
      have hgl : g < W3.heap.size := by omega
      have fz : ∀ o, W3.frozen? ⟨g, o, none⟩ = false := fun o => HO3.out.frozenAt o
      have e1 : ¬ w.heap.size = g := by omega
      have e3 : ¬ w.heap.size + 1 + 1 + 1 = g := by omega
      have e1' : ¬ g = w.heap.size := by omega
      have e3' : ¬ g = w.heap.size + 1 + 1 + 1 := by omega
      go_upto_if 98 with fail
      go_cut [17] (fun s17 wx => s17 = s17 ∧ ∃ K1 : Nat → Value, Hid (OwnK wr.heap.size (outS S ch) n K1 (.slice (some ⟨g, 0, none⟩) n cap) wx) ∧ wx.cell? ⟨w.heap.size, 0, none⟩ = some (.slice (some ⟨g, 0, none⟩) n cap) ∧ wx.cell? ⟨w.heap.size + 1 + 1 + 1, 0, none⟩ = some (.slice none 0 0) ∧ wx.frozen? ⟨w.heap.size + 1 + 1 + 1, 0, none⟩ = false ∧ W3.heap.size ≤ wx.heap.size ∧ Hid (Below w.heap.size w wx))
      case first =>
        rcases HP0.out with hp | ⟨p0, hp1, hp2, hp3⟩
        · rw [hp] at r4 ⊢
          have OS : Hid (outS S ch = S) := (by unfold outS; rw [if_pos hp] : outS S ch = S)
          go_wp2_with fail
          go_meet
          case rel => exact ⟨trivial, KK, (by rw [OS.out]; exact HO3.out : OwnK wr.heap.size (outS S ch) n KK (.slice (some ⟨g, 0, none⟩) n cap) W3), s0, s3, f3, Nat.le_refl _, HB3⟩
        · rw [hp3] at r4 ⊢
          rw [HN.out] at hp1
          have hpb : ((p0 : Int) == -1) = false := beq_eq_false_iff_ne.2 (by omega)
          have hp0n : (p0 : Int) < (n : Int) := by omega
          have OS : Hid (outS S ch = S.set p0 ⟨(nd S p0).u, (nd S p0).n, (nd S p0).t, (nd S p0).m, (nd S p0).p, woF ch (nd S p0).ks, (nd S p0).h, (nd S p0).c⟩) := (by unfold outS; rw [if_neg (by omega), hp3, Int.toNat_natCast] : outS S ch = _)
          have r5 : W3.cell? ⟨g, p0 * 8 + 5, none⟩ = some (KK p0) := HO3.out.cellAt (i := p0) (j := 5) hp1 (by omega)
          obtain ⟨ka, kc, hkv, hki, _⟩ := own_slice (HO3.out.2 p0 hp1)
          rw [hkv] at r5
          have hkl := HKS.out p0 (by rw [HN.out]; exact hp1)
          have HKI : Hid (IntsAt W3 ka (nd S p0).ks) := hki
          have DW : Hid (∀ W, IntsAt W ka (nd S p0).ks → Calls _ _ _ _ _) := fun W hW => rWithout_any ka kc (nd S p0).ks (ch : Int) W hkl hW
          obtain ⟨L, hL⟩ : ∃ L, (nd S p0).ks.length = L := ⟨_, rfl⟩
          rw [hL] at r5 DW hkl
          clear hki hkv hL
          go_wp2_with fail
          refine wp_region_noPanic ?_
          refine wp_region_held_drew (S := fun w'' => w''.cell? ⟨w.heap.size, 0, none⟩ = some (.slice (some ⟨g, 0, none⟩) n cap)) (by kernel_rfl) (by (try dsimp only); go_keep) (fun hHeld => ?_)
          refine wpAnyH_take (i := 0) (v := ?_) rfl (by kernel_rfl) (by kernel_rfl) (by kernel_rfl) (fun _ _ _ h => h) (Or.inl ⟨by rfl, ?_⟩) (by assumption) ?_
          rotate_left
          · intro w hSw; (try dsimp only at hSw); first | (go_simp; done) | (go_simp; with_reducible rfl)
          simp [Act.put]
          refine wpAnyH_take (i := 1) (v := ?_) rfl (by kernel_rfl) (by kernel_rfl) (by kernel_rfl) (fun _ _ _ h => h) (Or.inl ⟨by rfl, ?_⟩) (by assumption) ?_
          rotate_left
          · intro w hSw; (try dsimp only at hSw); first | (go_simp; done) | (go_simp; with_reducible rfl)
          simp [Act.put]
          refine wpAnyH_take (i := 2) (v := ?_) rfl (by kernel_rfl) (by kernel_rfl) (by kernel_rfl) (fun _ _ _ h => h) (Or.inl ⟨by rfl, ?_⟩) (by assumption) ?_
          rotate_left
          · intro w hSw; (try dsimp only at hSw); first | (go_simp; done) | (go_simp; with_reducible rfl)
          simp [Act.put]
          refine wpAnyH_take (i := 3) (v := ?_) rfl (by kernel_rfl) (by kernel_rfl) (by kernel_rfl) (fun _ _ _ h => h) (Or.inl ⟨by rfl, ?_⟩) (by assumption) ?_
          rotate_left
          · intro w hSw; (try dsimp only at hSw); first | (go_simp; done) | (go_simp; with_reducible rfl)
          simp [Act.put]
          refine wpAnyH_take (i := 4) (v := ?_) rfl (by kernel_rfl) (by kernel_rfl) (by kernel_rfl) (fun _ _ _ h => h) (Or.inl ⟨by rfl, ?_⟩) (by assumption) ?_
          rotate_left
          · intro w hSw; (try dsimp only at hSw); first | (go_simp; done) | (go_simp; with_reducible rfl)
          simp [Act.put]
          refine wpAnyH_take (i := 5) (v := ?_) rfl (by kernel_rfl) (by kernel_rfl) (by kernel_rfl) (fun _ _ _ h => h) (Or.inl ⟨by rfl, ?_⟩) (by assumption) ?_
          rotate_left
          · intro w hSw; (try dsimp only at hSw); first | (go_simp; done) | (go_simp; with_reducible rfl)
          simp [Act.put]
          refine wpAnyH_take (i := 6) (v := ?_) rfl (by kernel_rfl) (by kernel_rfl) (by kernel_rfl) (fun _ _ _ h => h) (Or.inl ⟨by rfl, ?_⟩) (by assumption) ?_
          rotate_left
          · intro w hSw; (try dsimp only at hSw); first | (go_simp; done) | (go_simp; with_reducible rfl)
          simp [Act.put]
          refine wpAnyH_take (i := 7) (v := ?_) rfl (by kernel_rfl) (by kernel_rfl) (by kernel_rfl) (fun _ _ _ h => h) (Or.inl ⟨by rfl, ?_⟩) (by assumption) ?_
          rotate_left
          · intro w hSw; (try dsimp only at hSw); first | (go_simp; done) | (go_simp; with_reducible rfl)
          simp [Act.put]
          refine wpAnyH_take (i := 9) (v := ?_) rfl (by kernel_rfl) (by kernel_rfl) (by kernel_rfl) (fun _ _ _ h => h) (Or.inl ⟨by rfl, ?_⟩) (by assumption) ?_
          rotate_left
          · intro w hSw; (try dsimp only at hSw); first | (go_simp; done) | (go_simp; with_reducible rfl)
          simp [Act.put]
          refine wpAnyH_ready (rs := [8]) (by kernel_rfl) (by simp) ?_
          refine AllReadyH.cons rfl (fun K hK => ?_) AllReadyH.nil
          go_simp
          refine hK.out _ _ ?_ (fun hHeld => ?_)
          · (try dsimp only)
            first | go_keep | assumption
          clear hK K
          try simp [Act.put]
          refine wpAnyH_ready (rs := [10]) (by kernel_rfl) (by simp) ?_
          refine AllReadyH.cons rfl (fun K hK => ?_) AllReadyH.nil
          go_simp
          refine Calls.mono (DW.out _ (HKI.out.below (by first | exact (Below.refl _ _).drew | exact Below.refl _ _))) ?_
          rintro e w5 ⟨v5, rfl, hb5, hown5⟩
          have hb5' : Below W3.heap.size W3 w5 := (by first | exact (Below.refl W3.heap.size W3).drew.trans hb5 | exact hb5)
          have t0 := keepC s0 hb5'
          have t3 := keepC s3 hb5'
          have t5 := keepC r5 hb5'
          have ft3 : w5.frozen? ⟨w.heap.size + 1 + 1 + 1, 0, none⟩ = false := (hb5'.frozen (p := ⟨w.heap.size + 1 + 1 + 1, 0, none⟩) (by show w.heap.size + 1 + 1 + 1 < _; omega)).trans f3
          have ftg : ∀ o, w5.frozen? ⟨g, o, none⟩ = false := fun o => (hb5'.frozen (p := ⟨g, o, none⟩) hgl).trans (fz o)
          have hs5 := hb5'.size
          have HO5 : Hid (OwnK wr.heap.size S n KK (.slice (some ⟨g, 0, none⟩) n cap) w5) := HO3.out.other (fun b _ hb => hb5'.block b hb)
          have HV5 : Hid (w5.ownsRow wr.heap.size 3 1 v5 (woF ch (nd S p0).ks).length ((woF ch (nd S p0).ks).map (Value.int .i64))) := ownsRow_baseL hown5 (by first | (simp; omega) | omega)
          have HB5 : Hid (Below w.heap.size w w5) := HB3.out.trans (hb5'.mono HB3.out.size)
          obtain ⟨pa5, pc5, hv5, _⟩ := own_slice hown5
          subst hv5
          clear hb5 hb5' hown5
          go_wp2_with fail
          refine hK.out _ _ ?_ (fun hHeld => ?_)
          · (try dsimp only)
            first | exact t0 | go_keep
          clear hK K
          try simp [Act.put]
          refine wpAnyH_take (i := 11) (v := ?_) rfl (by kernel_rfl) (by kernel_rfl) (by kernel_rfl) (fun _ _ _ h => h) (Or.inl ⟨by rfl, ?_⟩) (by assumption) ?_
          rotate_left
          · intro w hSw; (try dsimp only at hSw); first | (go_simp; done) | (go_simp; with_reducible rfl)
          simp [Act.put]
          refine wpAnyH_take (i := 12) (v := ?_) rfl (by kernel_rfl) (by kernel_rfl) (by kernel_rfl) (fun _ _ _ h => h) (Or.inl ⟨by rfl, ?_⟩) (by assumption) ?_
          rotate_left
          · intro w hSw; (try dsimp only at hSw); first | (go_simp; done) | (go_simp; with_reducible rfl)
          simp [Act.put]
          refine wpAnyH_ready (rs := [13]) (by kernel_rfl) (by simp) ?_
          refine AllReadyH.cons rfl (fun K hK => ?_) AllReadyH.nil
          go_simp
          refine hK.out _ _ ?_ (fun hHeld => ?_)
          · (try dsimp only)
            first | exact cell_else (by omega) t0 | go_keep
          clear hK K
          try simp [Act.put]
          refine wpAnyH_done (by kernel_rfl) ?_ _
          refine NoPanic.normal ?_
          go_wp2_with fail
          go_meet
          case rel =>
            refine ⟨trivial, fun i => if i = p0 then (.slice pa5 (woF ch (nd S p0).ks).length pc5) else KK i, ?_, cell_else e1 t0, cell_else e3 t3, ?_, ?_, ?_⟩
            · show OwnK _ _ _ _ _ _
              rw [OS.out]
              exact HO5.out.putK (k := p0) hp1 HN.out (woF ch (nd S p0).ks) _ HV5.out
            · rw [World.frozen?_setCell]; exact ft3
            · simp; omega
            · exact HB5.out.setCell (by simp; omega) _
      case rest =>
      obtain ⟨_, K1, HO1, t0, t3, ft3, hsz1, HB1⟩ := hcut
      obtain ⟨w10, rfl⟩ : ∃ W, W = wc := ⟨_, rfl⟩
      clear s0 s3 f3 r4 fz HO3 HB3
      have r4 : w10.cell? ⟨g, ch * 8 + 4, none⟩ = some (.int .i64 (nd (outS S ch) ch).p) := HO1.out.cellAt (i := ch) (j := 4) hch (by omega)
      have fz : ∀ o, w10.frozen? ⟨g, o, none⟩ = false := fun o => HO1.out.frozenAt o
      have hgl1 : g < w10.heap.size := by omega
      obtain ⟨W11, hW11⟩ : ∃ W, w10.setCell ⟨g, ch * 8 + 4, none⟩ (.int .i64 (pa : Int)) = W := ⟨_, rfl⟩
      have HO2 : Hid (OwnK wr.heap.size (moveS S pa ch) n K1 (.slice (some ⟨g, 0, none⟩) n cap) W11) := by
        rw [← hW11]
        exact HO1.out.put1 (k := ch) (j := 4) (u := .int .i64 (pa : Int)) hch (by rw [outS_length]; exact HN.out) (by omega) _ (fun v j' hj' => by
          match j', hj' with
          | 0, _ | 1, _ | 2, _ | 3, _ | 4, _ | 5, _ | 6, _ | 7, _ => rfl) rfl
      have HB11 : Hid (Below w.heap.size w W11) := by rw [← hW11]; exact HB1.out.setCell (by simp; omega) _
      have hs11 : W11.heap.size = w10.heap.size := by rw [← hW11]; simp
      have s0 : W11.cell? ⟨w.heap.size, 0, none⟩ = some (.slice (some ⟨g, 0, none⟩) n cap) := by rw [← hW11]; exact cell_else e1 t0
      have s3 : W11.cell? ⟨w.heap.size + 1 + 1 + 1, 0, none⟩ = some (.slice none 0 0) := by rw [← hW11]; exact cell_else e3 t3
      have f3 : W11.frozen? ⟨w.heap.size + 1 + 1 + 1, 0, none⟩ = false := by rw [← hW11]; exact frozen_else ft3
      have hs11' : W3.heap.size ≤ W11.heap.size := by omega
      clear hs11
      go_upto_region 25 with fail
      try rw [hW11]
      clear hW11 r4 fz t0 t3 ft3 HO1 HB1
      have hkp : (nd (moveS S pa ch) pa).ks = (nd (leaveG S ch) pa).ks := MK.out
      have hown2 := HO2.out.2 pa hpa
      rw [hkp] at hown2
      have r5 : W11.cell? ⟨g, pa * 8 + 5, none⟩ = some (K1 pa) := HO2.out.cellAt (i := pa) (j := 5) hpa (by omega)
      obtain ⟨ka, kc, hkv, hki, _⟩ := own_slice hown2
      rw [hkv] at r5
      obtain ⟨ks, hks⟩ : ∃ ks, (nd (leaveG S ch) pa).ks = ks := ⟨_, rfl⟩
      have HES := ES
      rw [hks] at r5 hki HKE hkp HKL HES
      obtain ⟨L, hL⟩ : ∃ L, ks.length = L := ⟨_, rfl⟩
      have HL : Hid (ks.length = L) := hL
      have hkl := HKL.out
      rw [hL] at r5 hkl
      have HKI : Hid (IntsAt W11 ka ks) := hki
      have HKP : Hid _ := hkp
      clear hki hkv hL hks hown2 hkp
      have hpa2 : (pa : Int) < (n : Int) := by omega
      go_wp2_with fail
      obtain ⟨V0, hV0⟩ : ∃ V, V = wr := ⟨_, rfl⟩
      go_loopg [18, 125] L (fun gg s18 s125 wr => ∃ (i : Nat) (l : List Int), i ≤ L ∧ L - i ≤ gg ∧ s125 = .int .i64 i ∧ l.length ≤ 2 * i ∧ Hid (Below W11.heap.size W11 wr) ∧ W11.heap.size ≤ wr.heap.size ∧ Hid (wr.ownsRow W11.heap.size 3 1 s18 l.length (l.map (Value.int .i64))) ∧ Hid (l = insL nx ch (ks.take i)))
      case atStart => exact ⟨0, [], by omega, by omega, rfl, by simp, Below.refl _ _, Nat.le_refl _, World.ownsRow_nil _ _ _ _, (by simp [insL] : ([] : List Int) = insL nx ch (ks.take 0))⟩
      case round =>
        obtain ⟨i, l, hi, hgg, rfl, hli, HB2, hsz2, HO18, HE⟩ := hrel
        obtain ⟨qa, qc, hv, _⟩ := own_slice HO18.out
        subst hv
        obtain ⟨ln, hln⟩ : ∃ y, l.length = y := ⟨_, rfl⟩
        have HLN : Hid (l.length = ln) := hln
        rw [hln] at HO18 hli ⊢
        clear hln
        have OB : Hid (∀ k, (Value.slice qa ln qc).ownBlock = some k → W11.heap.size ≤ k) := fun k hk => (HO18.out.lt k hk).1
        by_cases hlt : i < L
        · obtain ⟨pb, po, ep, hpc⟩ := (HKI.out.below HB2.out) i (by rw [HL.out]; exact hlt)
          subst ep
          have hi2 : (i : Int) < (L : Int) := by omega
          have NXT : Hid (insL nx ch (ks.take (i + 1)) = l ++ (if ks.getD i 0 = nx then [(ch : Int), ks.getD i 0] else [ks.getD i 0])) := by
            show insL nx ch (ks.take (i + 1)) = _
            rw [List.take_succ_eq_append_getElem (by rw [HL.out]; exact hlt), ← getD_elem ks 0 (by rw [HL.out]; exact hlt), insL_snoc, ← HE.out]
          clear HE
          generalize ks.getD i 0 = y at *
          by_cases hy : y = nx
          · have hyb : (y == nx) = true := by simp [hy]
            have hyd : decide (y = nx) = true := decide_eq_true hy
            have E2 : Hid ((l ++ [(ch : Int)]) ++ [y] = insL nx ch (ks.take (i + 1))) := (by rw [NXT.out, if_pos hy]; simp : (l ++ [(ch : Int)]) ++ [y] = insL nx ch (ks.take (i + 1)))
            clear NXT hy
            go_wp2_with (at_builtin; refine wpList_append_own _ rfl _ _ 33 rfl W11.heap.size 3 j0 (.int .i64 0) 1 8 Try.underlying33 hj0 hy0 hy1 hy2 rfl (by decide) _ _ _ rfl (HO18.out.alloc _) ⟨wr.heap.size, 0, none⟩ 1 1 [.int .i64 (ch : Int)] rfl rfl ?c1 ?c2 ?c3 ?c4 ?c5 ?_)
            case c2 => first | rfl | (intro u hu; simp at hu; subst hu; rfl) | simp
            case c3 => unfold maxLen; omega
            case c4 => omega
            case c5 => first | omega | (simp; omega)
            first | (case c1 => first | (go_simp; done) | (intro j u hj; match j, hj with | 0, hj => (cases hj; go_simp) | (j + 1), hj => simp at hj)) | skip
            intro v1 w21 hown' hgrow _
            have hb21 : Below W11.heap.size wr w21 := ((Below.refl _ wr).alloc (by omega) _).grown hgrow (by simp; omega) (fun k hk => OB.out k hk)
            have HO21 : Hid (w21.ownsRow W11.heap.size 3 1 v1 (ln + 1) ((l ++ [(ch : Int)]).map (Value.int .i64))) := by
              have h2 := hown'
              rw [List.map_append]
              exact h2
            have hs21 := hb21.size
            have HB21 : Hid (Below W11.heap.size W11 w21) := HB2.out.trans hb21
            have OB1 : Hid (∀ k, v1.ownBlock = some k → W11.heap.size ≤ k) := fun k hk => (HO21.out.lt k hk).1
            obtain ⟨va, vc, hv1⟩ : ∃ va vc, v1 = .slice va (ln + 1) vc := by
              rcases HO21.out.2 with ⟨_, h⟩ | ⟨g', cap', cur, h, _⟩
              · omega
              · exact ⟨_, _, h⟩
            subst hv1
            clear hown' hgrow hb21 HO18 OB
            go_wp2_with (at_builtin; refine wpList_append_own _ rfl _ _ 33 rfl W11.heap.size 3 j0 (.int .i64 0) 1 8 Try.underlying33 hj0 hy0 hy1 hy2 rfl (by decide) _ _ _ rfl (HO21.out.alloc _) ⟨w21.heap.size, 0, none⟩ 1 1 [.int .i64 y] rfl rfl ?d1 ?d2 ?d3 ?d4 ?d5 ?_)
            case d2 => first | rfl | (intro u hu; simp at hu; subst hu; rfl) | simp
            case d3 => unfold maxLen; omega
            case d4 => omega
            case d5 => first | omega | (simp; omega)
            first | (case d1 => first | (go_simp; done) | (intro j u hj; match j, hj with | 0, hj => (cases hj; go_simp) | (j + 1), hj => simp at hj)) | skip
            intro v2 w22 hown' hgrow _
            have hb22 : Below W11.heap.size w21 w22 := ((Below.refl _ w21).alloc (by omega) _).grown hgrow (by simp; omega) (fun k hk => OB1.out k hk)
            have HO22 : Hid (w22.ownsRow W11.heap.size 3 1 v2 ((l ++ [(ch : Int)]) ++ [y]).length (((l ++ [(ch : Int)]) ++ [y]).map (Value.int .i64))) := by
              have h2 := hown'
              rw [show ((l ++ [(ch : Int)]) ++ [y]).length = ln + 1 + 1 by simp [HLN.out], show ((l ++ [(ch : Int)]) ++ [y]).map (Value.int .i64) = l.map (Value.int .i64) ++ [.int .i64 (ch : Int), .int .i64 y] by simp]
              exact h2
            have hs22 := hb22.size
            have HB22 : Hid (Below W11.heap.size W11 w22) := HB21.out.trans hb22
            clear hown' hgrow hb22 HO21 OB1
            go_wp2_with fail
            go_roundg (L - (i + 1))
            case measure => omega
            case rel => exact ⟨i + 1, (l ++ [(ch : Int)]) ++ [y], by omega, by omega, by go_num, by simp [HLN.out]; omega, HB22, by omega, HO22, E2⟩
          · have hyb : (y == nx) = false := beq_eq_false_iff_ne.2 hy
            have hyd : decide (y = nx) = false := decide_eq_false hy
            have E2 : Hid (l ++ [y] = insL nx ch (ks.take (i + 1))) := (by rw [NXT.out, if_neg hy] : l ++ [y] = insL nx ch (ks.take (i + 1)))
            clear NXT
            go_wp2_with (at_builtin; refine wpList_append_own _ rfl _ _ 33 rfl W11.heap.size 3 j0 (.int .i64 0) 1 8 Try.underlying33 hj0 hy0 hy1 hy2 rfl (by decide) _ _ _ rfl (HO18.out.alloc _) ⟨wr.heap.size, 0, none⟩ 1 1 [.int .i64 y] rfl rfl ?e1 ?e2 ?e3 ?e4 ?e5 ?_)
            case e2 => first | rfl | (intro u hu; simp at hu; subst hu; rfl) | simp
            case e3 => unfold maxLen; omega
            case e4 => omega
            case e5 => first | omega | (simp; omega)
            first | (case e1 => first | (go_simp; done) | (intro j u hj; match j, hj with | 0, hj => (cases hj; go_simp) | (j + 1), hj => simp at hj)) | skip
            intro v1 w21 hown' hgrow _
            have hb21 : Below W11.heap.size wr w21 := ((Below.refl _ wr).alloc (by omega) _).grown hgrow (by simp; omega) (fun k hk => OB.out k hk)
            have HO21 : Hid (w21.ownsRow W11.heap.size 3 1 v1 (l ++ [y]).length ((l ++ [y]).map (Value.int .i64))) := by
              have h2 := hown'
              rw [show (l ++ [y]).length = ln + 1 by simp [HLN.out], List.map_append]
              exact h2
            have hs21 := hb21.size
            have HB21 : Hid (Below W11.heap.size W11 w21) := HB2.out.trans hb21
            clear hown' hgrow hb21 HO18 OB
            go_wp2_with fail
            go_roundg (L - (i + 1))
            case measure => omega
            case rel => exact ⟨i + 1, l ++ [y], by omega, by omega, by go_num, by simp [HLN.out]; omega, HB21, by omega, HO21, E2⟩
        · have hie : i = L := by omega
          have hEl : l = insL nx ch ks := by
            have := HE.out
            rw [List.take_of_length_le (by rw [HL.out]; omega)] at this
            exact this
          have KE : Hid (l ++ (if nx = -1 then [(ch : Int)] else []) = ins ks at' ch) := (by rw [hEl]; exact HKE.out : l ++ (if nx = -1 then [(ch : Int)] else []) = ins ks at' ch)
          subst hie
          clear HE hEl HKE
          have u0 := keepC s0 HB2.out
          have u3 := keepC s3 HB2.out
          have hg11 : g < W11.heap.size := by omega
          have g3 : wr.frozen? ⟨w.heap.size + 1 + 1 + 1, 0, none⟩ = false := (HB2.out.frozen (p := ⟨w.heap.size + 1 + 1 + 1, 0, none⟩) (by show w.heap.size + 1 + 1 + 1 < _; omega)).trans f3
          go_upto_if 142 with fail
          go_cut [18] (fun s18 wx => ∃ (va : Option Addr) (vc : Nat), s18 = .slice va (ins ks at' ch).length vc ∧ Hid (wx.ownsRow W11.heap.size 3 1 (.slice va (ins ks at' ch).length vc) (ins ks at' ch).length ((ins ks at' ch).map (Value.int .i64))) ∧ Hid (Below W11.heap.size W11 wx) ∧ W11.heap.size ≤ wx.heap.size)
          case first =>
            by_cases hn1 : nx = -1
            · have ke := KE.out
              rw [if_pos hn1] at ke
              have KE2 : Hid _ := ke
              have nb1 : (nx == -1) = true := by simp [hn1]
              have nd1 : decide (nx = -1) = true := decide_eq_true hn1
              clear ke hn1
              go_wp2_with (at_builtin; refine wpList_append_own _ rfl _ _ 33 rfl W11.heap.size 3 j0 (.int .i64 0) 1 8 Try.underlying33 hj0 hy0 hy1 hy2 rfl (by decide) _ _ _ rfl (HO18.out.alloc _) ⟨wr.heap.size, 0, none⟩ 1 1 [.int .i64 (ch : Int)] rfl rfl ?f1 ?f2 ?f3 ?f4 ?f5 ?_)
              case f2 => first | rfl | (intro u hu; simp at hu; subst hu; rfl) | simp
              case f3 => unfold maxLen; omega
              case f4 => omega
              case f5 => first | omega | (simp; omega)
              first | (case f1 => first | (go_simp; done) | (intro j u hj; match j, hj with | 0, hj => (cases hj; go_simp) | (j + 1), hj => simp at hj)) | skip
              intro v1 w21 hown' hgrow _
              have hb21 : Below W11.heap.size wr w21 := ((Below.refl _ wr).alloc (by omega) _).grown hgrow (by simp; omega) (fun k hk => OB.out k hk)
              have HO21 : Hid (w21.ownsRow W11.heap.size 3 1 v1 (ins ks at' ch).length ((ins ks at' ch).map (Value.int .i64))) := by
                have h2 := hown'
                rw [← KE2.out, show (l ++ [(ch : Int)]).length = ln + 1 by simp [HLN.out], List.map_append]
                exact h2
              have hs21 := hb21.size
              have HB21 : Hid (Below W11.heap.size W11 w21) := HB2.out.trans hb21
              obtain ⟨va, vc, hv1, _⟩ := own_slice HO21.out
              subst hv1
              clear hown' hgrow hb21
              go_wp2_with fail
              go_meet
              case rel => exact ⟨va, vc, rfl, HO21, HB21, by omega⟩
            · have ke := KE.out
              rw [if_neg hn1, List.append_nil] at ke
              have nb1 : (nx == -1) = false := beq_eq_false_iff_ne.2 hn1
              have nd1 : decide (nx = -1) = false := decide_eq_false hn1
              have hl2 : (ins ks at' ch).length = ln := by rw [← ke]; exact HLN.out
              have HL2 : Hid _ := hl2
              have HO21 : Hid (wr.ownsRow W11.heap.size 3 1 (.slice qa (ins ks at' ch).length qc) (ins ks at' ch).length ((ins ks at' ch).map (Value.int .i64))) := by
                show World.ownsRow _ _ _ _ _ _ _
                rw [hl2, ← ke]
                exact HO18.out
              clear ke hl2 hn1
              go_wp2_with fail
              go_meet
              case rel => exact ⟨qa, qc, by rw [HL2.out], HO21, HB2, hsz2⟩
          case rest =>
          obtain ⟨va, vc, rfl, HOv, HBv, hszv⟩ := hcut
          obtain ⟨w30, rfl⟩ : ∃ W, W = wc := ⟨_, rfl⟩
          clear u0 u3 g3 HO18 HB2 KE OB
          have HO30 : Hid (OwnK V0.heap.size (moveS S pa ch) n K1 (.slice (some ⟨g, 0, none⟩) n cap) w30) := (by rw [hV0]; exact HO2.out.other (fun b _ hb => HBv.out.block b hb) : OwnK V0.heap.size (moveS S pa ch) n K1 (.slice (some ⟨g, 0, none⟩) n cap) w30)
          have u0 := keepC s0 HBv.out
          have u3 := keepC s3 HBv.out
          have g3 : w30.frozen? ⟨w.heap.size + 1 + 1 + 1, 0, none⟩ = false := (HBv.out.frozen (p := ⟨w.heap.size + 1 + 1 + 1, 0, none⟩) (by show w.heap.size + 1 + 1 + 1 < _; omega)).trans f3
          have u5 : w30.cell? ⟨g, pa * 8 + 5, none⟩ = some (K1 pa) := HO30.out.cellAt (i := pa) (j := 5) hpa (by omega)
          have fz : ∀ o, w30.frozen? ⟨g, o, none⟩ = false := fun o => HO30.out.frozenAt o
          have hg30 : g < w30.heap.size := by omega
          have HB30 : Hid (Below w.heap.size w w30) := HB11.out.trans (HBv.out.mono HB11.out.size)
          have hV1 : V0.heap.size ≤ W11.heap.size := by rw [hV0]; omega
          have hV2 : w.heap.size + 1 + 1 + 1 < V0.heap.size := by rw [hV0]; omega
          have PF : Hid (OwnK V0.heap.size (enterS (leaveG S ch) pa ch at') n (fun i => if i = pa then (.slice va (ins ks at' ch).length vc) else K1 i) (.slice (some ⟨g, 0, none⟩) n cap) (w30.setCell ⟨g, pa * 8 + 5, none⟩ (.slice va (ins ks at' ch).length vc))) := by
            have p1 := HO30.out.putK (k := pa) hpa (by rw [moveS_length]; exact HN.out) (ins ks at' ch) (.slice va (ins ks at' ch).length vc) (ownsRow_baseL HOv.out hV1)
            rw [HES.out] at p1
            exact p1
          clear HO30
          go_wp2_with fail
          have x3 : (w30.setCell ⟨g, pa * 8 + 5, none⟩ (.slice va (ins ks at' ch).length vc)).cell? ⟨w.heap.size + 1 + 1 + 1, 0, none⟩ = some (.slice none 0 0) := cell_else e3 u3
          refine bodyPost_ret (v := .tuple #[.agg #[.slice (some ⟨g, 0, none⟩) n cap], .int .i64 0]) (by simp [results, Try.results28, go_sem, x3]) rfl ⟨some ⟨g, 0, none⟩, cap, rfl, ?_, ?_⟩
          · first | exact (HB30.out.setCell (by simp; omega) _).setCell (by simp; omega) _ | exact ((HB30.out.setCell (by simp; omega) _).setCell (by simp; omega) _).drew
          · refine (PF.out.other (fun b hb _ => ?_)).ndsAt (by rw [enterS_length, leaveG_length]; exact HN.out)
            first
              | exact Below.heap_setCell _ _ _ _ (by show b ≠ w.heap.size + 1 + 1 + 1; omega)
              | (rw [heap_drew]; exact Below.heap_setCell _ _ _ _ (by show b ≠ w.heap.size + 1 + 1 + 1; omega))
end Go.Proofs.Ytjlapfgghljidaa
