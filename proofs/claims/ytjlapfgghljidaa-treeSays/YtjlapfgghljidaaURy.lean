/-
  The reference's Inserted, behind its first checks.
-/
import Derived.Test.YtjlapfgghljidaaURxaRx
import Derived.Test.YtjlapfgghljidaaUSmBoSpLay
namespace Go.Proofs.Ytjlapfgghljidaa
open Go.RowKit

def nextI : List (Int × Int) → Int
  | [] => -1
  | h :: _ => h.1

theorem own_afterG {wr w2 : World} {S : List Nd} {n : Nat} {K : Nat → Value} {v : Value} {b0 : Nat} (h0 : 0 < n) (hb0 : b0 < wr.heap.size) (hown : OwnK wr.heap.size S n K v w2) : ∃ g cap, v = .slice (some ⟨g, 0, none⟩) n cap ∧ wr.heap.size ≤ g ∧ g < w2.heap.size ∧ n ≤ cap ∧ cap ≤ 9223372036854775807 ∧ OwnK wr.heap.size S n K (.slice (some ⟨g, 0, none⟩) n cap) (w2.setCell ⟨b0, 0, none⟩ (.slice (some ⟨g, 0, none⟩) n cap)) := by
  have hm := hown.1
  obtain ⟨g, cap, rfl, h1, h2, h3, h4⟩ : ∃ g cap, v = .slice (some ⟨g, 0, none⟩) n cap ∧ wr.heap.size ≤ g ∧ g < w2.heap.size ∧ n ≤ cap ∧ cap ≤ 9223372036854775807 := by
    have hl := hm.lt
    rcases hm.2 with ⟨_, h⟩ | ⟨g, cap, cur, h, h1, _, h3, h4, _⟩
    · omega
    · subst h
      exact ⟨g, cap, rfl, h1, (hl g rfl).2, h3, by unfold maxLen at h4; omega⟩
  exact ⟨g, cap, rfl, h1, h2, h3, h4, hown.other (fun b hb _ => Below.heap_setCell _ _ _ _ (by show b ≠ b0; omega))⟩

theorem line_pathI {S : List Nd} {k : Nat} (hk : k < S.length) : lineF S (S.length + 1) (k : Int) = pathF S k := by
  rw [lineF, if_pos (isPl_nat.2 hk), Int.toNat_natCast]
  rfl

set_option maxRecDepth 100000 in
set_option maxHeartbeats 8000000 in
theorem rIns_bad (a : Option Addr) (c : Nat) (S : List Nd) (pa ch : Nat) (pu cu : Int) (ha : Option Addr) (hc : Nat) (hs : List (Int × Int)) (w : World) (hN : S.length ≤ 24) (hC : RChk a c S) (hS : NdsAt w a S) (hH : HandsAt w ha hs) (hm : hs.length ≤ 1) (hE : tcheckE S (((pa : Int), pu) :: ((ch : Int), cu) :: hs) = 0) (hpa : pa < S.length) (hch : ch < S.length) (hfit : fitsB S ch pa = false) :
    Calls Try.prog 28 #[.agg #[.slice a S.length c], .agg #[.int .i64 (pa : Int), .int .i64 pu], .agg #[.int .i64 (ch : Int), .int .i64 cu], .slice ha hs.length hc] w fun e w' => e = .returned (.tuple #[.agg #[.slice none 0 0], .int .i64 6]) ∧ Below w.heap.size w w' := by
  have df := fun (W : World) (ha' : Option Addr) (hcc : Nat) (hW : NdsAt W a S) (hH' : HandsAt W ha' (((pa : Int), pu) :: ((ch : Int), cu) :: hs)) => rFirst_any a c S ha' hcc (((pa : Int), pu) :: ((ch : Int), cu) :: hs) W (by omega) hC hW (by simp; omega) hH'
  rw [hE] at df
  have DF : Hid (∀ (W : World) (ha' : Option Addr) (hcc : Nat), NdsAt W a S → HandsAt W ha' (((pa : Int), pu) :: ((ch : Int), cu) :: hs) → Calls Try.prog 47 #[.agg #[.slice a S.length c], .slice ha' (hs.length + 2) hcc] W fun e w' => e = .returned (.int .i64 0) ∧ Below W.heap.size W w') := df
  have HS : Hid (NdsAt w a S) := hS
  have HH : Hid (HandsAt w ha hs) := hH
  have DB : Hid _ := insBad_any
  obtain ⟨i0, hi0, hz0, hz1, hz2⟩ := info_parts info26
  clear hS hC df hE hH
  obtain ⟨m, hml⟩ : ∃ m, hs.length = m := ⟨_, rfl⟩
  have HM : Hid (hs.length = m) := hml
  rw [hml] at hm DF ⊢
  have hm2 : ¬ (1 : Int) < (m : Int) := by omega
  have hm3 : decide ((1 : Int) < (m : Int)) = false := decide_eq_false hm2
  obtain ⟨n, hn⟩ : ∃ n, S.length = n := ⟨_, rfl⟩
  have HN : Hid (S.length = n) := hn
  clear hml
  have dl := fun (W : World) (hW : NdsAt W a S) => rLine_any a c S (pa : Int) W hN hW
  rw [line_pathI hpa] at dl
  have DL : Hid _ := dl
  have PB : Hid ((pathF S pa).length ≤ 25) := Nat.le_trans (path_len S pa) (by omega)
  clear dl
  have hfp := fits_path (S := S) (ch := ch) hpa
  rw [hfit] at hfp
  have HFP : Hid _ := hfp
  rw [hn] at hN hpa hch DF DL ⊢
  clear hn hfit hfp
  go_enter Try.func28, Try.ntmps28
  go_upto_region 4 with fail
  obtain ⟨W4, hW4⟩ : ∃ W4, W4 = ((((w.alloc (.cells #[.slice a n c] 24)).alloc (.cells #[.int .i64 (pa : Int), .int .i64 pu] 26)).alloc (.cells #[.int .i64 (ch : Int), .int .i64 cu] 26)).alloc (.cells #[.slice none 0 0] 24)) := ⟨_, rfl⟩
  rw [← hW4]
  have hb4 : Below (w.heap.size + 1 + 1 + 1 + 1) ((((w.alloc (.cells #[.slice a n c] 24)).alloc (.cells #[.int .i64 (pa : Int), .int .i64 pu] 26)).alloc (.cells #[.int .i64 (ch : Int), .int .i64 cu] 26)).alloc (.cells #[.slice none 0 0] 24)) W4 := by rw [hW4]; exact Below.refl _ _
  obtain ⟨l0, l1, l2, l3, l4, l5, l6⟩ := ins_low4 hb4
  have hsz4 : W4.heap.size = w.heap.size + 1 + 1 + 1 + 1 := by rw [hW4]; simp
  have HB4 : Hid (Below w.heap.size w W4) := (four_below _ _ _ _ _).trans (hb4.mono (by omega))
  have HBB : Hid (Below (w.heap.size + 1 + 1 + 1 + 1) ((((w.alloc (.cells #[.slice a n c] 24)).alloc (.cells #[.int .i64 (pa : Int), .int .i64 pu] 26)).alloc (.cells #[.int .i64 (ch : Int), .int .i64 cu] 26)).alloc (.cells #[.slice none 0 0] 24)) W4) := hb4
  clear hW4 hb4
  go_cut [11] (fun s11 wx => s11 = .int .i64 0 ∧ Hid (Below (w.heap.size + 1 + 1 + 1 + 1) ((((w.alloc (.cells #[.slice a n c] 24)).alloc (.cells #[.int .i64 (pa : Int), .int .i64 pu] 26)).alloc (.cells #[.int .i64 (ch : Int), .int .i64 cu] 26)).alloc (.cells #[.slice none 0 0] 24)) wx))
  case first =>
    have ne0 := World.new_ne W4 _ l0
    have ne1 := World.new_ne W4 _ l1
    have ne2 := World.new_ne W4 _ l2
    have ne3 := World.new_ne W4 _ l3
    have ne4 := World.new_ne W4 _ l4
    cases hs with
    | nil =>
      have e0 : m = 0 := HM.out.symm
      subst e0
      cases ha with
      | none =>
        go_region_held3 (fun w'' => w''.cell? ⟨w.heap.size, 0, none⟩ = some (.slice a n c) ∧ w''.cell? ⟨w.heap.size + 1, 0, none⟩ = some (.int .i64 (pa : Int)) ∧ w''.cell? ⟨w.heap.size + 1, 1, none⟩ = some (.int .i64 pu) ∧ w''.cell? ⟨w.heap.size + 1 + 1, 0, none⟩ = some (.int .i64 (ch : Int)) ∧ w''.cell? ⟨w.heap.size + 1 + 1, 1, none⟩ = some (.int .i64 cu)) (go_keep) (first | (go_at_call 47; refine (DF.out _ _ 2 (HS.out.below (HB4.out.alloc (by omega) _).drew) (hands_two _ _ _ _ _ _ (by go_simp) (by go_simp) (by go_simp) (by go_simp))).mono ?_; rintro e w6 ⟨rfl, hb5⟩; have hB5 : Below (w.heap.size + 1 + 1 + 1 + 1) ((((w.alloc (.cells #[.slice a n c] 24)).alloc (.cells #[.int .i64 (pa : Int), .int .i64 pu] 26)).alloc (.cells #[.int .i64 (ch : Int), .int .i64 cu] 26)).alloc (.cells #[.slice none 0 0] 24)) w6 := (HBB.out.alloc (by omega) _).drew.trans (hb5.mono (by simp; omega)); obtain ⟨m0, m1, m2, m3, m4, m5, m6⟩ := ins_low4 hB5; have H6 : Hid (Below (w.heap.size + 1 + 1 + 1 + 1) ((((w.alloc (.cells #[.slice a n c] 24)).alloc (.cells #[.int .i64 (pa : Int), .int .i64 pu] 26)).alloc (.cells #[.int .i64 (ch : Int), .int .i64 cu] 26)).alloc (.cells #[.slice none 0 0] 24)) w6) := hB5; clear hb5 hB5))
        go_wp2_with fail
        go_meet
        case rel => exact ⟨rfl, H6⟩
      | some A0 =>
        go_region_held3 (fun w'' => w''.cell? ⟨w.heap.size, 0, none⟩ = some (.slice a n c) ∧ w''.cell? ⟨w.heap.size + 1, 0, none⟩ = some (.int .i64 (pa : Int)) ∧ w''.cell? ⟨w.heap.size + 1, 1, none⟩ = some (.int .i64 pu) ∧ w''.cell? ⟨w.heap.size + 1 + 1, 0, none⟩ = some (.int .i64 (ch : Int)) ∧ w''.cell? ⟨w.heap.size + 1 + 1, 1, none⟩ = some (.int .i64 cu)) (go_keep) (first | (go_at_call 47; refine (DF.out _ _ 2 (HS.out.below (HB4.out.alloc (by omega) _).drew) (hands_two _ _ _ _ _ _ (by go_simp) (by go_simp) (by go_simp) (by go_simp))).mono ?_; rintro e w6 ⟨rfl, hb5⟩; have hB5 : Below (w.heap.size + 1 + 1 + 1 + 1) ((((w.alloc (.cells #[.slice a n c] 24)).alloc (.cells #[.int .i64 (pa : Int), .int .i64 pu] 26)).alloc (.cells #[.int .i64 (ch : Int), .int .i64 cu] 26)).alloc (.cells #[.slice none 0 0] 24)) w6 := (HBB.out.alloc (by omega) _).drew.trans (hb5.mono (by simp; omega)); obtain ⟨m0, m1, m2, m3, m4, m5, m6⟩ := ins_low4 hB5; have H6 : Hid (Below (w.heap.size + 1 + 1 + 1 + 1) ((((w.alloc (.cells #[.slice a n c] 24)).alloc (.cells #[.int .i64 (pa : Int), .int .i64 pu] 26)).alloc (.cells #[.int .i64 (ch : Int), .int .i64 cu] 26)).alloc (.cells #[.slice none 0 0] 24)) w6) := hB5; clear hb5 hB5))
        go_wp2_with fail
        go_meet
        case rel => exact ⟨rfl, H6⟩
    | cons h t =>
      have e0 : t = [] ∧ m = 1 := by
        have h1 := HM.out
        rw [List.length_cons] at h1
        exact ⟨List.length_eq_zero_iff.1 (by omega), by omega⟩
      obtain ⟨e0, e1⟩ := e0
      subst e0
      subst e1
      obtain ⟨Q, qu⟩ := h
      obtain ⟨hb0, ho0, eh, _, _⟩ := HH.out 0 (by simp)
      subst eh
      have HC : Hid (∀ W, HandsAt W (some ⟨hb0, ho0, none⟩) [(Q, qu)] → W.cell? ⟨hb0, ho0, none⟩ = some (.int .i64 Q) ∧ W.cell? ⟨hb0, ho0 + 1, none⟩ = some (.int .i64 qu)) := fun W hW => by
        obtain ⟨b, o, e, h1, h2⟩ := hW 0 (by simp)
        cases e
        exact ⟨by simpa using h1, by simpa using h2⟩
      have HOLDS : Hid (∀ b, some (⟨w.heap.size + 1 + 1 + 1 + 1, 0, none⟩ : Addr) = some b → ∀ j u, ([.int .i64 (pa : Int), .int .i64 pu, .int .i64 (ch : Int), .int .i64 cu] : List Value)[j]? = some u → ((W4.alloc (.cells #[.int .i64 (pa : Int), .int .i64 pu, .int .i64 (ch : Int), .int .i64 cu] 26)).drew).cell? (b.add j) = some u) := fun b hb j u hj => by
        cases hb
        rw [Addr.add_lit, ← hsz4]
        match j, hj with
        | 0, hj => cases hj; go_simp
        | 1, hj => cases hj; go_simp
        | 2, hj => cases hj; go_simp
        | 3, hj => cases hj; go_simp
      have NEWS : Hid (∀ j u, ([.int .i64 Q, .int .i64 qu] : List Value)[j]? = some u → ((W4.alloc (.cells #[.int .i64 (pa : Int), .int .i64 pu, .int .i64 (ch : Int), .int .i64 cu] 26)).drew).cell? ((⟨hb0, ho0, none⟩ : Addr).add j) = some u) := fun j u hj => by
        obtain ⟨c0, c1⟩ := HC.out _ (HH.out.below (HB4.out.alloc (by omega) (.cells #[.int .i64 (pa : Int), .int .i64 pu, .int .i64 (ch : Int), .int .i64 cu] 26)).drew)
        rw [Addr.add_lit]
        match j, hj with
        | 0, hj => cases hj; exact c0
        | 1, hj => cases hj; exact c1
      go_region_held3 (fun w'' => w''.cell? ⟨w.heap.size, 0, none⟩ = some (.slice a n c) ∧ w''.cell? ⟨w.heap.size + 1, 0, none⟩ = some (.int .i64 (pa : Int)) ∧ w''.cell? ⟨w.heap.size + 1, 1, none⟩ = some (.int .i64 pu) ∧ w''.cell? ⟨w.heap.size + 1 + 1, 0, none⟩ = some (.int .i64 (ch : Int)) ∧ w''.cell? ⟨w.heap.size + 1 + 1, 1, none⟩ = some (.int .i64 cu)) (go_keep) (first
        | (refine step_append_grows rfl (.tmp 31) (.tmp 32) 48 rfl 26 i0 (.agg #[.int .i64 0, .int .i64 0]) 2 16 Try.underlying48 hi0 hz0 hz1 hz2 rfl (by decide) (some ⟨w.heap.size + 1 + 1 + 1 + 1, 0, none⟩) 2 2 [.int .i64 (pa : Int), .int .i64 pu, .int .i64 (ch : Int), .int .i64 cu] rfl (fun h => by cases h) rfl HOLDS.out ⟨hb0, ho0, none⟩ 1 hc [.int .i64 Q, .int .i64 qu] rfl rfl NEWS.out (by intro u hu; simp at hu; rcases hu with rfl | rfl <;> rfl) (by decide) (by decide) (by decide) ?_; intro v5 w5 hown5 hgrow5; have hB5 : Below (w.heap.size + 1 + 1 + 1 + 1) ((((w.alloc (.cells #[.slice a n c] 24)).alloc (.cells #[.int .i64 (pa : Int), .int .i64 pu] 26)).alloc (.cells #[.int .i64 (ch : Int), .int .i64 cu] 26)).alloc (.cells #[.slice none 0 0] 24)) w5 := (HBB.out.alloc (by omega) _).drew.grown hgrow5 (by simp; omega) (fun k hk => by cases hk); obtain ⟨k0, k1, k2, k3, k4, k5, k6⟩ := ins_low4 hB5; obtain ⟨ha5, hc5, hv5, hh5⟩ := hands_own hown5; subst hv5; have HH5 : Hid (HandsAt w5 ha5 [((pa : Int), pu), ((ch : Int), cu), (Q, qu)]) := hh5; have H5 : Hid (Below (w.heap.size + 1 + 1 + 1 + 1) ((((w.alloc (.cells #[.slice a n c] 24)).alloc (.cells #[.int .i64 (pa : Int), .int .i64 pu] 26)).alloc (.cells #[.int .i64 (ch : Int), .int .i64 cu] 26)).alloc (.cells #[.slice none 0 0] 24)) w5) := hB5; clear hown5 hgrow5 hB5 hh5)
        | (go_at_call 47; refine (DF.out _ _ _ (HS.out.below ((four_below _ _ _ _ _).trans (H5.out.mono (by omega)))) HH5.out).mono ?_; rintro e w6 ⟨rfl, hb6⟩; have hs5 := H5.out.size; simp only [World.size_alloc] at hs5; have hB6 : Below (w.heap.size + 1 + 1 + 1 + 1) ((((w.alloc (.cells #[.slice a n c] 24)).alloc (.cells #[.int .i64 (pa : Int), .int .i64 pu] 26)).alloc (.cells #[.int .i64 (ch : Int), .int .i64 cu] 26)).alloc (.cells #[.slice none 0 0] 24)) w6 := H5.out.trans (hb6.mono hs5); obtain ⟨m0, m1, m2, m3, m4, m5, m6⟩ := ins_low4 hB6; have H6 : Hid (Below (w.heap.size + 1 + 1 + 1 + 1) ((((w.alloc (.cells #[.slice a n c] 24)).alloc (.cells #[.int .i64 (pa : Int), .int .i64 pu] 26)).alloc (.cells #[.int .i64 (ch : Int), .int .i64 cu] 26)).alloc (.cells #[.slice none 0 0] 24)) w6) := hB6; clear hb6 hB6))
      go_wp2_with fail
      go_meet
      case rel => exact ⟨rfl, H6⟩
  case rest =>
  obtain ⟨rfl, H6⟩ := hcut
  clear l0 l1 l2 l3 l4 l5 l6 hsz4 HB4 HBB DF
  obtain ⟨w6, rfl⟩ : ∃ W, W = wc := ⟨_, rfl⟩
  obtain ⟨⟨l0, l1, l2, l3⟩, ⟨z0, z3⟩, hsz, hB⟩ := rins_low H6.out
  have HB6 : Hid _ := hB
  clear hB
  have q0 : w.heap.size < w6.heap.size := by omega
  have q1 : w.heap.size + 1 < w6.heap.size := by omega
  have q2 : w.heap.size + 1 + 1 < w6.heap.size := by omega
  go_upto_region 7 with fail
  go_cut [12, 13] (fun s12 s13 wx => s12 = .int .i64 (pa : Int) ∧ s13 = .int .i64 (ch : Int) ∧ Hid (Below (w.heap.size + 1 + 1 + 1 + 1) ((((w.alloc (.cells #[.slice a n c] 24)).alloc (.cells #[.int .i64 (pa : Int), .int .i64 pu] 26)).alloc (.cells #[.int .i64 (ch : Int), .int .i64 cu] 26)).alloc (.cells #[.slice none 0 0] 24)) wx))
  case first =>
    go_region
    all_goals (go_wp2_with fail; go_meet)
    all_goals first | exact ⟨rfl, rfl, (H6.out.drew : Below _ _ _)⟩ | exact ⟨rfl, rfl, H6⟩
  case rest =>
  obtain ⟨rfl, rfl, H7⟩ := hcut
  obtain ⟨w7, rfl⟩ : ∃ W, W = wc := ⟨_, rfl⟩
  clear l0 l1 l2 l3 z0 z3 hsz HB6 q0 q1 q2 H6
  obtain ⟨⟨l0, l1, l2, l3⟩, ⟨z0, z3⟩, hsz, hB⟩ := rins_low H7.out
  have HB7 : Hid _ := hB
  clear hB
  have q0 : w.heap.size < w7.heap.size := by omega
  have hch2 : (ch : Int) < (n : Int) := by omega
  obtain ⟨nb, no, ea, _, _, _, _, _, _, c6, _⟩ := (HS.out.below HB7.out) ch (by rw [HN.out]; exact hch)
  subst ea
  have hnb := World.block_lt_of_cell? _ _ c6
  generalize (nd S ch).h = hh at *
  by_cases hh1 : hh = -1
  · subst hh1
    have HIN : Hid (decide ((ch : Int) ∈ pathF S pa) = true) := by
      have hfp := HFP.out
      cases h : decide ((ch : Int) ∈ pathF S pa) with
      | true => exact (rfl : true = true)
      | false => rw [h] at hfp; simp at hfp
    go_wp2_with fail
    refine Calls.mono (DL.out _ (HS.out.below HB7.out)) ?_
    rintro e w8 ⟨v8, rfl, hb8, hown8⟩
    have hown8' : w8.ownsRow w7.heap.size 3 1 v8 (pathF S pa).length ((pathF S pa).map (Value.int .i64)) := hown8
    obtain ⟨pa8, pc8, hv8, hi8, _⟩ := own_slice hown8'
    have H8 : Hid (Below (w.heap.size + 1 + 1 + 1 + 1) ((((w.alloc (.cells #[.slice (some ⟨nb, no, none⟩) n c] 24)).alloc (.cells #[.int .i64 (pa : Int), .int .i64 pu] 26)).alloc (.cells #[.int .i64 (ch : Int), .int .i64 cu] 26)).alloc (.cells #[.slice none 0 0] 24)) w8) := H7.out.trans (hb8.mono (by omega))
    have DCo : Hid (Calls Try.prog 35 #[.slice pa8 (pathF S pa).length pc8, .int .i64 (ch : Int)] w8 fun e w' => e = .returned (.bool (decide ((ch : Int) ∈ pathF S pa))) ∧ w' = w8) := contains_any pa8 pc8 (pathF S pa) (ch : Int) w8 (by have := PB.out; omega) hi8
    rw [HIN.out] at DCo
    subst hv8
    clear hb8 hown8 hown8' hi8 l0 l1 l2 l3 z0 z3 q0 c6
    generalize (pathF S pa).length = LP at *
    go_wp2_with fail
    refine Calls.mono DCo.out ?_
    rintro e w8b ⟨rfl, hw8⟩
    subst hw8
    go_wp2_with fail
    refine Calls.mono (DB.out _ _) ?_
    rintro e wb ⟨rfl, hbb⟩
    have HBb : Hid (Below (w.heap.size + 1 + 1 + 1 + 1) ((((w.alloc (.cells #[.slice (some ⟨nb, no, none⟩) n c] 24)).alloc (.cells #[.int .i64 (pa : Int), .int .i64 pu] 26)).alloc (.cells #[.int .i64 (ch : Int), .int .i64 cu] 26)).alloc (.cells #[.slice none 0 0] 24)) wb) := H8.out.trans (hbb.mono (by have := H8.out.size; simp only [World.size_alloc] at this; omega))
    obtain ⟨⟨l0, l1, l2, l3⟩, ⟨z0, z3⟩, hsz, hB⟩ := rins_low HBb.out
    have q3 : w.heap.size + 1 + 1 + 1 < wb.heap.size := by omega
    have HBc : Hid _ := hB
    clear hbb hB
    go_wp2_with fail
    refine bodyPost_ret (v := .tuple #[.agg #[.slice none 0 0], .int .i64 6]) (by simp [results, Try.results28, go_sem, l3]) rfl ⟨rfl, ?_⟩
    first | exact HBc.out.setCell (by simp; omega) _ | exact (HBc.out.setCell (by simp; omega) _).drew
  · have hhb : (hh == -1) = false := beq_eq_false_iff_ne.2 hh1
    have hhd : decide (hh = -1) = false := decide_eq_false hh1
    clear HFP
    go_wp2_with fail
    refine Calls.mono (DB.out _ _) ?_
    rintro e wb ⟨rfl, hbb⟩
    have HBb : Hid (Below (w.heap.size + 1 + 1 + 1 + 1) ((((w.alloc (.cells #[.slice (some ⟨nb, no, none⟩) n c] 24)).alloc (.cells #[.int .i64 (pa : Int), .int .i64 pu] 26)).alloc (.cells #[.int .i64 (ch : Int), .int .i64 cu] 26)).alloc (.cells #[.slice none 0 0] 24)) wb) := H7.out.trans (hbb.mono (by have := H7.out.size; simp only [World.size_alloc] at this; omega))
    clear l0 l1 l2 l3 z0 z3
    obtain ⟨⟨l0, l1, l2, l3⟩, ⟨z0, z3⟩, hsz, hB⟩ := rins_low HBb.out
    have q3 : w.heap.size + 1 + 1 + 1 < wb.heap.size := by omega
    have HBc : Hid _ := hB
    clear hbb hB
    go_wp2_with fail
    refine bodyPost_ret (v := .tuple #[.agg #[.slice none 0 0], .int .i64 6]) (by simp [results, Try.results28, go_sem, l3]) rfl ⟨rfl, ?_⟩
    first | exact HBc.out.setCell (by simp; omega) _ | exact (HBc.out.setCell (by simp; omega) _).drew

set_option maxRecDepth 100000 in
set_option maxHeartbeats 8000000 in
theorem rIns_away (a : Option Addr) (c : Nat) (S : List Nd) (pa ch : Nat) (pu cu : Int) (ha : Option Addr) (hc : Nat) (hs : List (Int × Int)) (w : World) (hN : S.length ≤ 24) (hC : RChk a c S) (hS : NdsAt w a S) (hH : HandsAt w ha hs) (hm : hs.length ≤ 1) (hE : tcheckE S (((pa : Int), pu) :: ((ch : Int), cu) :: hs) = 0) (hpa : pa < S.length) (hch : ch < S.length) (hfit : fitsB S ch pa = true) (hQ : ∀ h ∈ hs, ∃ q : Nat, h.1 = q ∧ q < S.length) (hlen : hs.length = 1) (hqp : ∀ h ∈ hs, (nd S h.1.toNat).p ≠ pa) :
    Calls Try.prog 28 #[.agg #[.slice a S.length c], .agg #[.int .i64 (pa : Int), .int .i64 pu], .agg #[.int .i64 (ch : Int), .int .i64 cu], .slice ha hs.length hc] w fun e w' => e = .returned (.tuple #[.agg #[.slice none 0 0], .int .i64 6]) ∧ Below w.heap.size w w' := by
  have df := fun (W : World) (ha' : Option Addr) (hcc : Nat) (hW : NdsAt W a S) (hH' : HandsAt W ha' (((pa : Int), pu) :: ((ch : Int), cu) :: hs)) => rFirst_any a c S ha' hcc (((pa : Int), pu) :: ((ch : Int), cu) :: hs) W (by omega) hC hW (by simp; omega) hH'
  rw [hE] at df
  have DF : Hid (∀ (W : World) (ha' : Option Addr) (hcc : Nat), NdsAt W a S → HandsAt W ha' (((pa : Int), pu) :: ((ch : Int), cu) :: hs) → Calls Try.prog 47 #[.agg #[.slice a S.length c], .slice ha' (hs.length + 2) hcc] W fun e w' => e = .returned (.int .i64 0) ∧ Below W.heap.size W w') := df
  have HS : Hid (NdsAt w a S) := hS
  have HH : Hid (HandsAt w ha hs) := hH
  have DB : Hid _ := insBad_any
  obtain ⟨i0, hi0, hz0, hz1, hz2⟩ := info_parts info26
  clear hS hC df hE hH
  obtain ⟨m, hml⟩ : ∃ m, hs.length = m := ⟨_, rfl⟩
  have HM : Hid (hs.length = m) := hml
  rw [hml] at hm DF ⊢
  have hm2 : ¬ (1 : Int) < (m : Int) := by omega
  have hm3 : decide ((1 : Int) < (m : Int)) = false := decide_eq_false hm2
  obtain ⟨n, hn⟩ : ∃ n, S.length = n := ⟨_, rfl⟩
  have HN : Hid (S.length = n) := hn
  clear hml
  have dl := fun (W : World) (hW : NdsAt W a S) => rLine_any a c S (pa : Int) W hN hW
  rw [line_pathI hpa] at dl
  have DL : Hid _ := dl
  have PB : Hid ((pathF S pa).length ≤ 25) := Nat.le_trans (path_len S pa) (by omega)
  clear dl
  have hfp := fits_path (S := S) (ch := ch) hpa
  rw [hfit] at hfp
  have hh1 : (nd S ch).h = -1 ∧ decide ((ch : Int) ∈ pathF S pa) = false := by
    by_cases h : (nd S ch).h = -1
    · refine ⟨h, ?_⟩
      cases h2 : decide ((ch : Int) ∈ pathF S pa) with
      | false => rfl
      | true => rw [h2] at hfp; simp at hfp
    · rw [decide_eq_false h] at hfp; simp at hfp
  have HH1 : Hid _ := hh1.1
  have HIN : Hid _ := hh1.2
  clear hh1
  have HQQ : Hid (∀ h ∈ hs, ∃ q : Nat, h.1 = q ∧ q < S.length) := hQ
  clear hfp hfit hQ
  have HQP : Hid _ := hqp
  rw [HM.out] at hlen
  have HLEN : Hid (m = 1) := hlen
  clear hlen
  rw [hn] at hN hpa hch DF DL HQQ ⊢
  clear hn hqp
  go_enter Try.func28, Try.ntmps28
  go_upto_region 4 with fail
  obtain ⟨W4, hW4⟩ : ∃ W4, W4 = ((((w.alloc (.cells #[.slice a n c] 24)).alloc (.cells #[.int .i64 (pa : Int), .int .i64 pu] 26)).alloc (.cells #[.int .i64 (ch : Int), .int .i64 cu] 26)).alloc (.cells #[.slice none 0 0] 24)) := ⟨_, rfl⟩
  rw [← hW4]
  have hb4 : Below (w.heap.size + 1 + 1 + 1 + 1) ((((w.alloc (.cells #[.slice a n c] 24)).alloc (.cells #[.int .i64 (pa : Int), .int .i64 pu] 26)).alloc (.cells #[.int .i64 (ch : Int), .int .i64 cu] 26)).alloc (.cells #[.slice none 0 0] 24)) W4 := by rw [hW4]; exact Below.refl _ _
  obtain ⟨l0, l1, l2, l3, l4, l5, l6⟩ := ins_low4 hb4
  have hsz4 : W4.heap.size = w.heap.size + 1 + 1 + 1 + 1 := by rw [hW4]; simp
  have HB4 : Hid (Below w.heap.size w W4) := (four_below _ _ _ _ _).trans (hb4.mono (by omega))
  have HBB : Hid (Below (w.heap.size + 1 + 1 + 1 + 1) ((((w.alloc (.cells #[.slice a n c] 24)).alloc (.cells #[.int .i64 (pa : Int), .int .i64 pu] 26)).alloc (.cells #[.int .i64 (ch : Int), .int .i64 cu] 26)).alloc (.cells #[.slice none 0 0] 24)) W4) := hb4
  clear hW4 hb4
  go_cut [11] (fun s11 wx => s11 = .int .i64 0 ∧ Hid (Below (w.heap.size + 1 + 1 + 1 + 1) ((((w.alloc (.cells #[.slice a n c] 24)).alloc (.cells #[.int .i64 (pa : Int), .int .i64 pu] 26)).alloc (.cells #[.int .i64 (ch : Int), .int .i64 cu] 26)).alloc (.cells #[.slice none 0 0] 24)) wx))
  case first =>
    have ne0 := World.new_ne W4 _ l0
    have ne1 := World.new_ne W4 _ l1
    have ne2 := World.new_ne W4 _ l2
    have ne3 := World.new_ne W4 _ l3
    have ne4 := World.new_ne W4 _ l4
    cases hs with
    | nil =>
      have e0 : m = 0 := HM.out.symm
      subst e0
      cases ha with
      | none =>
        go_region_held3 (fun w'' => w''.cell? ⟨w.heap.size, 0, none⟩ = some (.slice a n c) ∧ w''.cell? ⟨w.heap.size + 1, 0, none⟩ = some (.int .i64 (pa : Int)) ∧ w''.cell? ⟨w.heap.size + 1, 1, none⟩ = some (.int .i64 pu) ∧ w''.cell? ⟨w.heap.size + 1 + 1, 0, none⟩ = some (.int .i64 (ch : Int)) ∧ w''.cell? ⟨w.heap.size + 1 + 1, 1, none⟩ = some (.int .i64 cu)) (go_keep) (first | (go_at_call 47; refine (DF.out _ _ 2 (HS.out.below (HB4.out.alloc (by omega) _).drew) (hands_two _ _ _ _ _ _ (by go_simp) (by go_simp) (by go_simp) (by go_simp))).mono ?_; rintro e w6 ⟨rfl, hb5⟩; have hB5 : Below (w.heap.size + 1 + 1 + 1 + 1) ((((w.alloc (.cells #[.slice a n c] 24)).alloc (.cells #[.int .i64 (pa : Int), .int .i64 pu] 26)).alloc (.cells #[.int .i64 (ch : Int), .int .i64 cu] 26)).alloc (.cells #[.slice none 0 0] 24)) w6 := (HBB.out.alloc (by omega) _).drew.trans (hb5.mono (by simp; omega)); obtain ⟨m0, m1, m2, m3, m4, m5, m6⟩ := ins_low4 hB5; have H6 : Hid (Below (w.heap.size + 1 + 1 + 1 + 1) ((((w.alloc (.cells #[.slice a n c] 24)).alloc (.cells #[.int .i64 (pa : Int), .int .i64 pu] 26)).alloc (.cells #[.int .i64 (ch : Int), .int .i64 cu] 26)).alloc (.cells #[.slice none 0 0] 24)) w6) := hB5; clear hb5 hB5))
        go_wp2_with fail
        go_meet
        case rel => exact ⟨rfl, H6⟩
      | some A0 =>
        go_region_held3 (fun w'' => w''.cell? ⟨w.heap.size, 0, none⟩ = some (.slice a n c) ∧ w''.cell? ⟨w.heap.size + 1, 0, none⟩ = some (.int .i64 (pa : Int)) ∧ w''.cell? ⟨w.heap.size + 1, 1, none⟩ = some (.int .i64 pu) ∧ w''.cell? ⟨w.heap.size + 1 + 1, 0, none⟩ = some (.int .i64 (ch : Int)) ∧ w''.cell? ⟨w.heap.size + 1 + 1, 1, none⟩ = some (.int .i64 cu)) (go_keep) (first | (go_at_call 47; refine (DF.out _ _ 2 (HS.out.below (HB4.out.alloc (by omega) _).drew) (hands_two _ _ _ _ _ _ (by go_simp) (by go_simp) (by go_simp) (by go_simp))).mono ?_; rintro e w6 ⟨rfl, hb5⟩; have hB5 : Below (w.heap.size + 1 + 1 + 1 + 1) ((((w.alloc (.cells #[.slice a n c] 24)).alloc (.cells #[.int .i64 (pa : Int), .int .i64 pu] 26)).alloc (.cells #[.int .i64 (ch : Int), .int .i64 cu] 26)).alloc (.cells #[.slice none 0 0] 24)) w6 := (HBB.out.alloc (by omega) _).drew.trans (hb5.mono (by simp; omega)); obtain ⟨m0, m1, m2, m3, m4, m5, m6⟩ := ins_low4 hB5; have H6 : Hid (Below (w.heap.size + 1 + 1 + 1 + 1) ((((w.alloc (.cells #[.slice a n c] 24)).alloc (.cells #[.int .i64 (pa : Int), .int .i64 pu] 26)).alloc (.cells #[.int .i64 (ch : Int), .int .i64 cu] 26)).alloc (.cells #[.slice none 0 0] 24)) w6) := hB5; clear hb5 hB5))
        go_wp2_with fail
        go_meet
        case rel => exact ⟨rfl, H6⟩
    | cons h t =>
      have e0 : t = [] ∧ m = 1 := by
        have h1 := HM.out
        rw [List.length_cons] at h1
        exact ⟨List.length_eq_zero_iff.1 (by omega), by omega⟩
      obtain ⟨e0, e1⟩ := e0
      subst e0
      subst e1
      obtain ⟨Q, qu⟩ := h
      obtain ⟨hb0, ho0, eh, _, _⟩ := HH.out 0 (by simp)
      subst eh
      have HC : Hid (∀ W, HandsAt W (some ⟨hb0, ho0, none⟩) [(Q, qu)] → W.cell? ⟨hb0, ho0, none⟩ = some (.int .i64 Q) ∧ W.cell? ⟨hb0, ho0 + 1, none⟩ = some (.int .i64 qu)) := fun W hW => by
        obtain ⟨b, o, e, h1, h2⟩ := hW 0 (by simp)
        cases e
        exact ⟨by simpa using h1, by simpa using h2⟩
      have HOLDS : Hid (∀ b, some (⟨w.heap.size + 1 + 1 + 1 + 1, 0, none⟩ : Addr) = some b → ∀ j u, ([.int .i64 (pa : Int), .int .i64 pu, .int .i64 (ch : Int), .int .i64 cu] : List Value)[j]? = some u → ((W4.alloc (.cells #[.int .i64 (pa : Int), .int .i64 pu, .int .i64 (ch : Int), .int .i64 cu] 26)).drew).cell? (b.add j) = some u) := fun b hb j u hj => by
        cases hb
        rw [Addr.add_lit, ← hsz4]
        match j, hj with
        | 0, hj => cases hj; go_simp
        | 1, hj => cases hj; go_simp
        | 2, hj => cases hj; go_simp
        | 3, hj => cases hj; go_simp
      have NEWS : Hid (∀ j u, ([.int .i64 Q, .int .i64 qu] : List Value)[j]? = some u → ((W4.alloc (.cells #[.int .i64 (pa : Int), .int .i64 pu, .int .i64 (ch : Int), .int .i64 cu] 26)).drew).cell? ((⟨hb0, ho0, none⟩ : Addr).add j) = some u) := fun j u hj => by
        obtain ⟨c0, c1⟩ := HC.out _ (HH.out.below (HB4.out.alloc (by omega) (.cells #[.int .i64 (pa : Int), .int .i64 pu, .int .i64 (ch : Int), .int .i64 cu] 26)).drew)
        rw [Addr.add_lit]
        match j, hj with
        | 0, hj => cases hj; exact c0
        | 1, hj => cases hj; exact c1
      go_region_held3 (fun w'' => w''.cell? ⟨w.heap.size, 0, none⟩ = some (.slice a n c) ∧ w''.cell? ⟨w.heap.size + 1, 0, none⟩ = some (.int .i64 (pa : Int)) ∧ w''.cell? ⟨w.heap.size + 1, 1, none⟩ = some (.int .i64 pu) ∧ w''.cell? ⟨w.heap.size + 1 + 1, 0, none⟩ = some (.int .i64 (ch : Int)) ∧ w''.cell? ⟨w.heap.size + 1 + 1, 1, none⟩ = some (.int .i64 cu)) (go_keep) (first
        | (refine step_append_grows rfl (.tmp 31) (.tmp 32) 48 rfl 26 i0 (.agg #[.int .i64 0, .int .i64 0]) 2 16 Try.underlying48 hi0 hz0 hz1 hz2 rfl (by decide) (some ⟨w.heap.size + 1 + 1 + 1 + 1, 0, none⟩) 2 2 [.int .i64 (pa : Int), .int .i64 pu, .int .i64 (ch : Int), .int .i64 cu] rfl (fun h => by cases h) rfl HOLDS.out ⟨hb0, ho0, none⟩ 1 hc [.int .i64 Q, .int .i64 qu] rfl rfl NEWS.out (by intro u hu; simp at hu; rcases hu with rfl | rfl <;> rfl) (by decide) (by decide) (by decide) ?_; intro v5 w5 hown5 hgrow5; have hB5 : Below (w.heap.size + 1 + 1 + 1 + 1) ((((w.alloc (.cells #[.slice a n c] 24)).alloc (.cells #[.int .i64 (pa : Int), .int .i64 pu] 26)).alloc (.cells #[.int .i64 (ch : Int), .int .i64 cu] 26)).alloc (.cells #[.slice none 0 0] 24)) w5 := (HBB.out.alloc (by omega) _).drew.grown hgrow5 (by simp; omega) (fun k hk => by cases hk); obtain ⟨k0, k1, k2, k3, k4, k5, k6⟩ := ins_low4 hB5; obtain ⟨ha5, hc5, hv5, hh5⟩ := hands_own hown5; subst hv5; have HH5 : Hid (HandsAt w5 ha5 [((pa : Int), pu), ((ch : Int), cu), (Q, qu)]) := hh5; have H5 : Hid (Below (w.heap.size + 1 + 1 + 1 + 1) ((((w.alloc (.cells #[.slice a n c] 24)).alloc (.cells #[.int .i64 (pa : Int), .int .i64 pu] 26)).alloc (.cells #[.int .i64 (ch : Int), .int .i64 cu] 26)).alloc (.cells #[.slice none 0 0] 24)) w5) := hB5; clear hown5 hgrow5 hB5 hh5)
        | (go_at_call 47; refine (DF.out _ _ _ (HS.out.below ((four_below _ _ _ _ _).trans (H5.out.mono (by omega)))) HH5.out).mono ?_; rintro e w6 ⟨rfl, hb6⟩; have hs5 := H5.out.size; simp only [World.size_alloc] at hs5; have hB6 : Below (w.heap.size + 1 + 1 + 1 + 1) ((((w.alloc (.cells #[.slice a n c] 24)).alloc (.cells #[.int .i64 (pa : Int), .int .i64 pu] 26)).alloc (.cells #[.int .i64 (ch : Int), .int .i64 cu] 26)).alloc (.cells #[.slice none 0 0] 24)) w6 := H5.out.trans (hb6.mono hs5); obtain ⟨m0, m1, m2, m3, m4, m5, m6⟩ := ins_low4 hB6; have H6 : Hid (Below (w.heap.size + 1 + 1 + 1 + 1) ((((w.alloc (.cells #[.slice a n c] 24)).alloc (.cells #[.int .i64 (pa : Int), .int .i64 pu] 26)).alloc (.cells #[.int .i64 (ch : Int), .int .i64 cu] 26)).alloc (.cells #[.slice none 0 0] 24)) w6) := hB6; clear hb6 hB6))
      go_wp2_with fail
      go_meet
      case rel => exact ⟨rfl, H6⟩
  case rest =>
  obtain ⟨rfl, H6⟩ := hcut
  clear l0 l1 l2 l3 l4 l5 l6 hsz4 HB4 HBB DF
  obtain ⟨w6, rfl⟩ : ∃ W, W = wc := ⟨_, rfl⟩
  obtain ⟨⟨l0, l1, l2, l3⟩, ⟨z0, z3⟩, hsz, hB⟩ := rins_low H6.out
  have HB6 : Hid _ := hB
  clear hB
  have q0 : w.heap.size < w6.heap.size := by omega
  have q1 : w.heap.size + 1 < w6.heap.size := by omega
  have q2 : w.heap.size + 1 + 1 < w6.heap.size := by omega
  go_upto_region 7 with fail
  go_cut [12, 13] (fun s12 s13 wx => s12 = .int .i64 (pa : Int) ∧ s13 = .int .i64 (ch : Int) ∧ Hid (Below (w.heap.size + 1 + 1 + 1 + 1) ((((w.alloc (.cells #[.slice a n c] 24)).alloc (.cells #[.int .i64 (pa : Int), .int .i64 pu] 26)).alloc (.cells #[.int .i64 (ch : Int), .int .i64 cu] 26)).alloc (.cells #[.slice none 0 0] 24)) wx))
  case first =>
    go_region
    all_goals (go_wp2_with fail; go_meet)
    all_goals first | exact ⟨rfl, rfl, (H6.out.drew : Below _ _ _)⟩ | exact ⟨rfl, rfl, H6⟩
  case rest =>
  obtain ⟨rfl, rfl, H7⟩ := hcut
  obtain ⟨w7, rfl⟩ : ∃ W, W = wc := ⟨_, rfl⟩
  clear l0 l1 l2 l3 z0 z3 hsz HB6 q0 q1 q2 H6
  obtain ⟨⟨l0, l1, l2, l3⟩, ⟨z0, z3⟩, hsz, hB⟩ := rins_low H7.out
  have HB7 : Hid _ := hB
  clear hB
  have q0 : w.heap.size < w7.heap.size := by omega
  have hch2 : (ch : Int) < (n : Int) := by omega
  obtain ⟨nb, no, ea, _, _, _, _, _, _, c6, _⟩ := (HS.out.below HB7.out) ch (by rw [HN.out]; exact hch)
  subst ea
  have hnb := World.block_lt_of_cell? _ _ c6
  rw [HH1.out] at c6
  go_wp2_with fail
  refine Calls.mono (DL.out _ (HS.out.below HB7.out)) ?_
  rintro e w8 ⟨v8, rfl, hb8, hown8⟩
  have hown8' : w8.ownsRow w7.heap.size 3 1 v8 (pathF S pa).length ((pathF S pa).map (Value.int .i64)) := hown8
  obtain ⟨pa8, pc8, hv8, hi8, _⟩ := own_slice hown8'
  have H8 : Hid (Below (w.heap.size + 1 + 1 + 1 + 1) ((((w.alloc (.cells #[.slice (some ⟨nb, no, none⟩) n c] 24)).alloc (.cells #[.int .i64 (pa : Int), .int .i64 pu] 26)).alloc (.cells #[.int .i64 (ch : Int), .int .i64 cu] 26)).alloc (.cells #[.slice none 0 0] 24)) w8) := H7.out.trans (hb8.mono (by omega))
  have DCo : Hid (Calls Try.prog 35 #[.slice pa8 (pathF S pa).length pc8, .int .i64 (ch : Int)] w8 fun e w' => e = .returned (.bool (decide ((ch : Int) ∈ pathF S pa))) ∧ w' = w8) := contains_any pa8 pc8 (pathF S pa) (ch : Int) w8 (by have := PB.out; omega) hi8
  rw [HIN.out] at DCo
  subst hv8
  clear hb8 hown8 hown8' hi8 l0 l1 l2 l3 z0 z3 q0 c6
  generalize (pathF S pa).length = LP at *
  go_wp2_with fail
  refine Calls.mono DCo.out ?_
  rintro e w8b ⟨rfl, hw8⟩
  subst hw8
  clear DL PB DCo HIN HB7 H7 hsz hnb
  go_wp2_with fail
  go_loopg [14, 66] (m + 1) (fun g s14 s66 wr => ∃ (i : Nat) (tv : Int), i ≤ m ∧ m - i < g ∧ s66 = .int .i64 i ∧ s14 = .int .i64 tv ∧ Hid (Below (w.heap.size + 1 + 1 + 1 + 1) ((((w.alloc (.cells #[.slice (some ⟨nb, no, none⟩) n c] 24)).alloc (.cells #[.int .i64 (pa : Int), .int .i64 pu] 26)).alloc (.cells #[.int .i64 (ch : Int), .int .i64 cu] 26)).alloc (.cells #[.slice none 0 0] 24)) wr) ∧ Hid (i = 0))
  case atStart => exact ⟨0, -1, by omega, by omega, rfl, rfl, H8, (rfl : (0 : Nat) = 0)⟩
  case round =>
    clear H8
    obtain ⟨i, tv, hi, hg, rfl, rfl, HB, A⟩ := hrel
    obtain ⟨⟨l0, l1, l2, l3⟩, ⟨z0, z3⟩, hsz, hBw⟩ := rins_low HB.out
    have HBw : Hid _ := hBw
    clear hBw
    have q0 : w.heap.size < wr.heap.size := by omega
    have q1 : w.heap.size + 1 < wr.heap.size := by omega
    have q2 : w.heap.size + 1 + 1 < wr.heap.size := by omega
    have q3 : w.heap.size + 1 + 1 + 1 < wr.heap.size := by omega
    by_cases hlt : i < m
    · have hm1 : m = 1 := by omega
      have hi0' : i = 0 := by omega
      subst hi0'
      subst hm1
      obtain ⟨h, hs1⟩ : ∃ h, hs = [h] := by
        cases hs with
        | nil => exact absurd HM.out (by simp)
        | cons x t =>
          have h1 := HM.out
          rw [List.length_cons] at h1
          have ht : t = [] := List.length_eq_zero_iff.1 (by omega)
          exact ⟨x, by rw [ht]⟩
      obtain ⟨q, hq1, hqn⟩ := HQQ.out h (by rw [hs1]; simp)
      obtain ⟨hb0, ho0, eh, hc0, hc1⟩ := (HH.out.below HBw.out) 0 (by rw [hs1]; simp)
      rw [hs1] at hc0 hc1
      simp only [List.getD_cons_zero] at hc0 hc1
      rw [hq1] at hc0
      subst eh
      have hc0' : wr.cell? ⟨hb0, ho0, none⟩ = some (.int .i64 (q : Int)) := by simpa using hc0
      have hc1' : wr.cell? ⟨hb0, ho0 + 1, none⟩ = some (.int .i64 h.2) := by simpa using hc1
      have hbl := World.block_lt_of_cell? _ _ hc0'
      clear hc0 hc1
      have hq2 : (q : Int) < (n : Int) := by omega
      obtain ⟨nb', no', ea', _, _, _, _, c4, _, _, _⟩ := (HS.out.below HBw.out) q (by rw [HN.out]; exact hqn)
      cases ea'
      have hnb' := World.block_lt_of_cell? _ _ c4
      have hpne : (nd S q).p ≠ (pa : Int) := by
        have := HQP.out h (by rw [hs1]; simp)
        rw [hq1, Int.toNat_natCast] at this
        exact this
      generalize (nd S q).p = pq at *
      have hpb : (pq == (pa : Int)) = false := beq_eq_false_iff_ne.2 hpne
      have hpd : decide (pq = (pa : Int)) = false := decide_eq_false hpne
      go_wp2_with fail
      refine Calls.mono (DB.out _ _) ?_
      rintro e wb ⟨rfl, hbb⟩
      have HBb : Hid (Below (w.heap.size + 1 + 1 + 1 + 1) ((((w.alloc (.cells #[.slice (some ⟨nb, no, none⟩) n c] 24)).alloc (.cells #[.int .i64 (pa : Int), .int .i64 pu] 26)).alloc (.cells #[.int .i64 (ch : Int), .int .i64 cu] 26)).alloc (.cells #[.slice none 0 0] 24)) wb) := (HB.out.alloc (by omega) _).trans (hbb.mono (by simp; omega))
      clear l0 l1 l2 l3 z0 z3 q3
      obtain ⟨⟨l0, l1, l2, l3⟩, ⟨z0, z3⟩, hsz2, hB⟩ := rins_low HBb.out
      have q3 : w.heap.size + 1 + 1 + 1 < wb.heap.size := by omega
      have HBc : Hid _ := hB
      clear hbb hB
      go_wp2_with fail
      refine bodyPost_ret (v := .tuple #[.agg #[.slice none 0 0], .int .i64 6]) (by simp [results, Try.results28, go_sem, l3]) rfl ⟨rfl, ?_⟩
      first | exact HBc.out.setCell (by simp; omega) _ | exact (HBc.out.setCell (by simp; omega) _).drew
    · exact absurd A.out (by show ¬ i = 0; have := HLEN.out; omega)

end Go.Proofs.Ytjlapfgghljidaa
