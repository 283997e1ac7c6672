/-
  The contract of tree.Insert: ahead of another node, of a node that has no Parent yet.
-/
import Derived.Test.YtfcpgabimedjmaaJTk
import Derived.Test.YtfcpgabimedjmaaJXaSo
import Derived.BigRegion
namespace Go.Proofs.Ytfcpgabimedjmaa
open Go.RowKit

theorem hands_own {W : World} {B : Nat} {v : Value} {p pu x xu q qu : Int} (h : W.ownsRow B 39 2 v 3 ([.int .i64 p, .int .i64 pu, .int .i64 x, .int .i64 xu] ++ [.int .i64 q, .int .i64 qu])) : ∃ ha hc, v = .slice ha 3 hc ∧ HandsAt W ha [(p, pu), (x, xu), (q, qu)] := by
  obtain ⟨_, h⟩ := h
  rcases h with ⟨_, h⟩ | ⟨g, cap, cur, rfl, _, hg, h1, h2, h3, h4⟩
  · omega
  · refine ⟨_, _, rfl, fun i hi => ?_⟩
    have hc : ∀ j u, ([.int .i64 p, .int .i64 pu, .int .i64 x, .int .i64 xu, .int .i64 q, .int .i64 qu] : List Value)[j]? = some u → j < 6 → W.cell? ⟨g, j, none⟩ = some u := fun j u hj hl => by
      have h5 : (cur.toList.take (3 * 2))[j]? = some u := by rw [h4]; simpa using hj
      rw [List.getElem?_take, if_pos (by omega)] at h5
      simp only [World.cell?, hg]
      simpa using h5
    match i, hi with
    | 0, _ => exact ⟨g, 0, rfl, hc 0 _ rfl (by omega), hc 1 _ rfl (by omega)⟩
    | 1, _ => exact ⟨g, 0, rfl, hc 2 _ rfl (by omega), hc 3 _ rfl (by omega)⟩
    | 2, _ => exact ⟨g, 0, rfl, hc 4 _ rfl (by omega), hc 5 _ rfl (by omega)⟩

set_option maxRecDepth 100000 in
set_option maxHeartbeats 2000000 in
theorem insert_one_ok (a : Option Addr) (c : Nat) (S : List Nd) (pa ch at' : Nat) (pu cu : Int) (hb0 ho0 hc0 q : Nat) (qu : Int) (w : World) (hN : S.length ≤ 24) (hB : Big S) (hS : NdsAt w a S) (hH : HandsAt w (some ⟨hb0, ho0, none⟩) [((q : Int), qu)]) (hE : tcheckE S [((pa : Int), pu), ((ch : Int), cu), ((q : Int), qu)] = 0) (hch : ch < S.length) (hpa : pa < S.length) (hq : q < S.length) (hne : pa ≠ ch) (hfit : fitsB S ch pa = true) (hpn : (nd S ch).p = -1) (hqp : (nd S q).p = pa) (hqc : ((ch : Int), cu) ≠ ((q : Int), qu)) (hat : idx (nd S pa).ks q = at') (hatL : at' ≤ (nd S pa).ks.length) (hK : ∀ i, i < S.length → (nd S i).ks.length ≤ 1000) :
    Calls Try.prog 61 #[.agg #[.slice a S.length c], .agg #[.int .i64 (pa : Int), .int .i64 pu], .agg #[.int .i64 (ch : Int), .int .i64 cu], .slice (some ⟨hb0, ho0, none⟩) 1 hc0] w fun e w' => ∃ g, e = .returned (.tuple #[.agg #[.slice (some ⟨g, 0, none⟩) S.length S.length], .int .i64 0]) ∧ Below w.heap.size w w' ∧ w.heap.size ≤ g ∧ ∀ w3 : World, (∀ b, g ≤ b → w3.heap[b]? = w'.heap[b]?) → NdsAt w3 (some ⟨g, 0, none⟩) (enterS S pa ch at') := by
  have d1 := fun (W : World) (ha : Option Addr) (hcc : Nat) (hW : NdsAt W a S) (hH : HandsAt W ha [((pa : Int), pu), ((ch : Int), cu), ((q : Int), qu)]) => tcheck_any a c S ha hcc [((pa : Int), pu), ((ch : Int), cu), ((q : Int), qu)] W (by omega) hB hW (by simp) hH
  rw [hE] at d1
  have D1 : Hid _ := d1
  have df := fun (W : World) (hW : NdsAt W a S) => fitsUnder_any a c S ch pa W (by omega) hch hW
  rw [hfit] at df
  have DF : Hid _ := df
  have HS : Hid (NdsAt w a S) := hS
  have HH : Hid (HandsAt w (some ⟨hb0, ho0, none⟩) [((q : Int), qu)]) := hH
  have dc := fun (W : World) (hW : NdsAt W a S) => copy_any a c S W hN hK hW
  have DC : Hid _ := dc
  have dh := fun (W : World) (hW : HandsAt W (some ⟨hb0, ho0, none⟩) [((q : Int), qu)]) => containsHand_any (some ⟨hb0, ho0, none⟩) hc0 [((q : Int), qu)] (ch : Int) cu W (by simp) hW
  rw [decide_eq_false (by simpa using hqc)] at dh
  have DH : Hid _ := dh
  have de := fun (B g c : Nat) (kb kc : Nat → Nat) (W : World) (hO : Own W B g S kb kc S.length) (hW : HandsAt W (some ⟨hb0, ho0, none⟩) [((q : Int), qu)]) => enter_any B g c S kb kc pa ch at' (some ⟨hb0, ho0, none⟩) hc0 [((q : Int), qu)] W hO hpa hch hne (by simp) hW hat hatL
  have DE : Hid _ := de
  have OC : Hid (∀ (wr : World) (B g : Nat) (kb kc : Nat → Nat), Own wr B g S kb kc S.length → B ≤ g ∧ g < wr.heap.size ∧ g < kb pa ∧ kb pa < wr.heap.size ∧ wr.cell? ⟨g, ch * 8 + 4, none⟩ = some (.int .i64 (-1))) := fun wr B g kb kc h => by
    obtain ⟨hB, F, hF, hNd, hg, _⟩ := h
    obtain ⟨_, _, _, _, e4, _⟩ := hNd ch hch
    exact ⟨hB, hF.lt, hg pa hpa, (hNd pa hpa).row, by rw [hF.cell (by omega), e4, hpn]⟩
  have QP : Hid (∀ W, NdsAt W a S → ∃ b o, a = some ⟨b, o, none⟩ ∧ W.cell? ⟨b, o + q * 8 + 4, none⟩ = some (.int .i64 (pa : Int))) := fun W hW => by
    obtain ⟨b, o, e, _, _, _, _, c4, _⟩ := hW q hq
    exact ⟨b, o, e, by rw [c4, hqp]⟩
  have hq2 : (q : Int) < (S.length : Int) := by omega
  have HC : Hid (∀ W, HandsAt W (some ⟨hb0, ho0, none⟩) [((q : Int), qu)] → W.cell? ⟨hb0, ho0, none⟩ = some (.int .i64 (q : Int)) ∧ W.cell? ⟨hb0, ho0 + 1, none⟩ = some (.int .i64 qu)) := fun W hW => by
    obtain ⟨b, o, e, h1, h2⟩ := hW 0 (by simp)
    cases e
    exact ⟨by simpa using h1, by simpa using h2⟩
  obtain ⟨i0, hi0, hz0, hz1, hz2⟩ := info_parts info39
  clear hS d1 df hE hB hfit dc dh de hK hH hqp hqc hat
  generalize hn : S.length = n at *
  have HN : Hid _ := hn
  clear hn
  go_enter Try.func61, Try.ntmps61
  go_wp2_with fail
  obtain ⟨W4, hW4⟩ : ∃ W4, W4 = ((((w.alloc (.cells #[.slice a n c] 24)).alloc (.cells #[.int .i64 (pa : Int), .int .i64 pu] 39)).alloc (.cells #[.int .i64 (ch : Int), .int .i64 cu] 39)).alloc (.cells #[.slice none 0 0] 24)) := ⟨_, rfl⟩
  rw [← hW4]
  have hb4 : Below (w.heap.size + 1 + 1 + 1 + 1) ((((w.alloc (.cells #[.slice a n c] 24)).alloc (.cells #[.int .i64 (pa : Int), .int .i64 pu] 39)).alloc (.cells #[.int .i64 (ch : Int), .int .i64 cu] 39)).alloc (.cells #[.slice none 0 0] 24)) W4 := by rw [hW4]; exact Below.refl _ _
  obtain ⟨l0, l1, l2, l3, l4, l5, l6⟩ := ins_low4 hb4
  have hsz4 : W4.heap.size = w.heap.size + 1 + 1 + 1 + 1 := by rw [hW4]; simp
  have HB4 : Hid (Below w.heap.size w W4) := (four_below _ _ _ _ _).trans (hb4.mono (by omega))
  have HBB : Hid (Below (w.heap.size + 1 + 1 + 1 + 1) ((((w.alloc (.cells #[.slice a n c] 24)).alloc (.cells #[.int .i64 (pa : Int), .int .i64 pu] 39)).alloc (.cells #[.int .i64 (ch : Int), .int .i64 cu] 39)).alloc (.cells #[.slice none 0 0] 24)) W4) := hb4
  clear hW4 hb4
  have ne0 := World.new_ne W4 _ l0
  have ne1 := World.new_ne W4 _ l1
  have ne2 := World.new_ne W4 _ l2
  have ne3 := World.new_ne W4 _ l3
  have ne4 := World.new_ne W4 _ l4
  have HOLDS : Hid (∀ b, some (⟨w.heap.size + 1 + 1 + 1 + 1, 0, none⟩ : Addr) = some b → ∀ j u, ([.int .i64 (pa : Int), .int .i64 pu, .int .i64 (ch : Int), .int .i64 cu] : List Value)[j]? = some u → ((W4.alloc (.cells #[.int .i64 (pa : Int), .int .i64 pu, .int .i64 (ch : Int), .int .i64 cu] 39)).drew).cell? (b.add j) = some u) := fun b hb j u hj => by
    cases hb
    rw [Addr.add_lit, ← hsz4]
    match j, hj with
    | 0, hj => cases hj; go_simp
    | 1, hj => cases hj; go_simp
    | 2, hj => cases hj; go_simp
    | 3, hj => cases hj; go_simp
  have NEWS : Hid (∀ j u, ([.int .i64 (q : Int), .int .i64 qu] : List Value)[j]? = some u → ((W4.alloc (.cells #[.int .i64 (pa : Int), .int .i64 pu, .int .i64 (ch : Int), .int .i64 cu] 39)).drew).cell? ((⟨hb0, ho0, none⟩ : Addr).add j) = some u) := fun j u hj => by
    obtain ⟨c0, c1⟩ := HC.out _ (HH.out.below (HB4.out.alloc (by omega) (.cells #[.int .i64 (pa : Int), .int .i64 pu, .int .i64 (ch : Int), .int .i64 cu] 39)).drew)
    rw [Addr.add_lit]
    match j, hj with
    | 0, hj => cases hj; exact c0
    | 1, hj => cases hj; exact c1
  go_region_held3 (fun w'' => w''.cell? ⟨w.heap.size, 0, none⟩ = some (.slice a n c) ∧ w''.cell? ⟨w.heap.size + 1, 0, none⟩ = some (.int .i64 (pa : Int)) ∧ w''.cell? ⟨w.heap.size + 1, 1, none⟩ = some (.int .i64 pu) ∧ w''.cell? ⟨w.heap.size + 1 + 1, 0, none⟩ = some (.int .i64 (ch : Int)) ∧ w''.cell? ⟨w.heap.size + 1 + 1, 1, none⟩ = some (.int .i64 cu)) (go_keep) (first
    | (refine step_append_grows rfl (.tmp 21) (.tmp 22) 25 rfl 39 i0 (.agg #[.int .i64 0, .int .i64 0]) 2 16 Try.underlying25 hi0 hz0 hz1 hz2 rfl (by decide) (some ⟨w.heap.size + 1 + 1 + 1 + 1, 0, none⟩) 2 2 [.int .i64 (pa : Int), .int .i64 pu, .int .i64 (ch : Int), .int .i64 cu] rfl (fun h => by cases h) rfl HOLDS.out ⟨hb0, ho0, none⟩ 1 hc0 [.int .i64 (q : Int), .int .i64 qu] rfl rfl NEWS.out (by intro u hu; simp at hu; rcases hu with rfl | rfl <;> rfl) (by decide) (by decide) (by decide) ?_; intro v5 w5 hown5 hgrow5; have hB5 : Below (w.heap.size + 1 + 1 + 1 + 1) ((((w.alloc (.cells #[.slice a n c] 24)).alloc (.cells #[.int .i64 (pa : Int), .int .i64 pu] 39)).alloc (.cells #[.int .i64 (ch : Int), .int .i64 cu] 39)).alloc (.cells #[.slice none 0 0] 24)) w5 := (HBB.out.alloc (by omega) _).drew.grown hgrow5 (by simp; omega) (fun k hk => by cases hk); obtain ⟨k0, k1, k2, k3, k4, k5, k6⟩ := ins_low4 hB5; obtain ⟨ha5, hc5, hv5, hh5⟩ := hands_own hown5; subst hv5; have HH5 : Hid (HandsAt w5 ha5 [((pa : Int), pu), ((ch : Int), cu), ((q : Int), qu)]) := hh5; have H5 : Hid (Below (w.heap.size + 1 + 1 + 1 + 1) ((((w.alloc (.cells #[.slice a n c] 24)).alloc (.cells #[.int .i64 (pa : Int), .int .i64 pu] 39)).alloc (.cells #[.int .i64 (ch : Int), .int .i64 cu] 39)).alloc (.cells #[.slice none 0 0] 24)) w5) := hB5; clear hown5 hgrow5 hB5 hh5)
    | (go_at_call 54; refine (D1.out _ _ _ (HS.out.below ((four_below _ _ _ _ _).trans (H5.out.mono (by omega)))) HH5.out).mono ?_; rintro e w6 ⟨rfl, hb6⟩; have hs5 := H5.out.size; simp only [World.size_alloc] at hs5; have hB6 : Below (w.heap.size + 1 + 1 + 1 + 1) ((((w.alloc (.cells #[.slice a n c] 24)).alloc (.cells #[.int .i64 (pa : Int), .int .i64 pu] 39)).alloc (.cells #[.int .i64 (ch : Int), .int .i64 cu] 39)).alloc (.cells #[.slice none 0 0] 24)) w6 := H5.out.trans (hb6.mono hs5); obtain ⟨m0, m1, m2, m3, m4, m5, m6⟩ := ins_low4 hB6; have H6 : Hid (Below (w.heap.size + 1 + 1 + 1 + 1) ((((w.alloc (.cells #[.slice a n c] 24)).alloc (.cells #[.int .i64 (pa : Int), .int .i64 pu] 39)).alloc (.cells #[.int .i64 (ch : Int), .int .i64 cu] 39)).alloc (.cells #[.slice none 0 0] 24)) w6) := hB6; clear hb6 hB6))
  have hB6w : Below w.heap.size w w6 := (four_below _ _ _ _ _).trans (H6.out.mono (by omega))
  clear k0 k1 k2 k3 k4 k5 k6 hs5
  go_wp2_with (go_at_call 79; refine (DF.out _ (HS.out.below hB6w)).mono ?_; rintro e w7 ⟨rfl, hb7⟩; have hs6 := H6.out.size; simp only [World.size_alloc] at hs6; have hB7 : Below (w.heap.size + 1 + 1 + 1 + 1) ((((w.alloc (.cells #[.slice a n c] 24)).alloc (.cells #[.int .i64 (pa : Int), .int .i64 pu] 39)).alloc (.cells #[.int .i64 (ch : Int), .int .i64 cu] 39)).alloc (.cells #[.slice none 0 0] 24)) w7 := H6.out.trans (hb7.mono hs6); have H7 : Hid (Below (w.heap.size + 1 + 1 + 1 + 1) ((((w.alloc (.cells #[.slice a n c] 24)).alloc (.cells #[.int .i64 (pa : Int), .int .i64 pu] 39)).alloc (.cells #[.int .i64 (ch : Int), .int .i64 cu] 39)).alloc (.cells #[.slice none 0 0] 24)) w7) := hB7; clear hb7 hB7 hs6)
  clear m0 m1 m2 m3 m4 m5 m6 hB6w
  go_loopg [39] 1 (fun g1 s39 wr => ∃ k : Nat, k ≤ 1 ∧ 1 - k ≤ g1 ∧ s39 = .int .i64 k ∧ Hid (Below (w.heap.size + 1 + 1 + 1 + 1) ((((w.alloc (.cells #[.slice a n c] 24)).alloc (.cells #[.int .i64 (pa : Int), .int .i64 pu] 39)).alloc (.cells #[.int .i64 (ch : Int), .int .i64 cu] 39)).alloc (.cells #[.slice none 0 0] 24)) wr))
  case atStart => exact ⟨0, by omega, by omega, rfl, H7⟩
  case round =>
    clear H7
    obtain ⟨k, hk, hg1, rfl, H6⟩ := hrel
    have hB6w : Below w.heap.size w wr := (four_below _ _ _ _ _).trans (H6.out.mono (by omega))
    have hs6 := H6.out.size
    simp only [World.size_alloc] at hs6
    obtain ⟨j0, j1, j2, j3, j4, j5, j6⟩ := ins_low4 H6.out
    by_cases hk0 : k = 0
    · subst hk0
      obtain ⟨x0, x1⟩ := HC.out _ (HH.out.below hB6w)
      obtain ⟨b, o, rfl, qp⟩ := QP.out _ (HS.out.below hB6w)
      have hbb := World.block_lt_of_cell? _ _ qp
      have hxb := World.block_lt_of_cell? _ _ x0
      have J0 := one_more j0
      have J1 := one_more j1
      have QQ := one_more qp
      go_wp2_with fail
      go_quiet (fail)
      go_wp2
      go_roundg 0
      case measure => omega
      case rel => exact ⟨1, by omega, by omega, by go_num, Below.drewNs (H6.out.alloc (by omega) _) _⟩
    · have hk1 : k = 1 := by omega
      subst hk1
      go_wp2_with fail
      refine (DC.out _ (HS.out.below hB6w)).mono ?_
      rintro e w7 ⟨g, kb, kc, rfl, hb7, hO7⟩
      obtain ⟨hgB, hgl, hgk, hkl, c4⟩ := OC.out _ _ _ _ _ hO7
      have hs7 := hb7.size
      have H7 : Hid (Below (w.heap.size + 1 + 1 + 1 + 1) ((((w.alloc (.cells #[.slice a n c] 24)).alloc (.cells #[.int .i64 (pa : Int), .int .i64 pu] 39)).alloc (.cells #[.int .i64 (ch : Int), .int .i64 cu] 39)).alloc (.cells #[.slice none 0 0] 24)) w7) := H6.out.trans (hb7.mono hs6)
      have HO7 : Hid (Own w7 wr.heap.size g S kb kc n) := hO7
      obtain ⟨i0, i1, i2, i3, i4, i5, i6⟩ := ins_low4 H7.out
      have M7 : Hid (∀ w8 o1, Below (w7.heap.size + 1) (w7.alloc o1) w8 → Below (w.heap.size + 1 + 1 + 1 + 1) ((((w.alloc (.cells #[.slice a n c] 24)).alloc (.cells #[.int .i64 (pa : Int), .int .i64 pu] 39)).alloc (.cells #[.int .i64 (ch : Int), .int .i64 cu] 39)).alloc (.cells #[.slice none 0 0] 24)) w8 ∧ Below w7.heap.size w7 w8) := fun w8 o1 h => ⟨(H7.out.alloc (by omega) o1).trans (h.mono (by omega)), ((Below.refl _ _).alloc (Nat.le_refl _) o1).trans (h.mono (by omega))⟩
      have I3 := one_more i3
      have I4 := one_more i4
      clear j0 j1 j2 j3 j4 j5 j6 hb7 hO7
      go_wp2_with fail
      refine (DH.out _ (HH.out.below (((four_below _ _ _ _ _).trans (H7.out.mono (by omega))).alloc (by omega) _))).mono ?_
      rintro e w8 ⟨rfl, hb8⟩
      simp only [World.size_alloc] at hb8
      have b8 : w8.cell? ⟨w7.heap.size, 0, none⟩ = some (.slice (some ⟨g, 0, none⟩) n n) := store_low hb8
      obtain ⟨H8, hb78⟩ := M7.out _ _ hb8
      have hs8 := hb8.size
      simp only [World.size_alloc] at hs8
      have c48 := (hb78.cell (by exact hgl)).trans c4
      have HH8 : Hid (Below (w.heap.size + 1 + 1 + 1 + 1) ((((w.alloc (.cells #[.slice a n c] 24)).alloc (.cells #[.int .i64 (pa : Int), .int .i64 pu] 39)).alloc (.cells #[.int .i64 (ch : Int), .int .i64 cu] 39)).alloc (.cells #[.slice none 0 0] 24)) w8) := H8
      have HO8 : Hid (Own w8 wr.heap.size g S kb kc n) := Own.below HO7.out hb78
      clear i0 i1 i2 i3 i4 i5 i6 hb8 I3 I4
      obtain ⟨i0, i1, i2, i3, i4, i5, i6⟩ := ins_low4 H8
      clear H8
      go_wp2_with fail
      refine (leave_none g n n ch _ (by omega) c48).mono ?_
      rintro e w9 ⟨rfl, hb9⟩
      have hs9 := hb9.size
      have b9 := (hb9.cell (World.block_lt_of_cell? _ _ b8)).trans b8
      have H9 : Below (w.heap.size + 1 + 1 + 1 + 1) ((((w.alloc (.cells #[.slice a n c] 24)).alloc (.cells #[.int .i64 (pa : Int), .int .i64 pu] 39)).alloc (.cells #[.int .i64 (ch : Int), .int .i64 cu] 39)).alloc (.cells #[.slice none 0 0] 24)) w9 := HH8.out.trans (hb9.mono (by omega))
      have HO9 : Hid (Own w9 wr.heap.size g S kb kc n) := Own.below HO8.out hb9
      have HH9 : Hid (Below (w.heap.size + 1 + 1 + 1 + 1) ((((w.alloc (.cells #[.slice a n c] 24)).alloc (.cells #[.int .i64 (pa : Int), .int .i64 pu] 39)).alloc (.cells #[.int .i64 (ch : Int), .int .i64 cu] 39)).alloc (.cells #[.slice none 0 0] 24)) w9) := H9
      clear i0 i1 i2 i3 i4 i5 i6 b8 c48 hb9
      obtain ⟨i0, i1, i2, i3, i4, i5, i6⟩ := ins_low4 H9
      clear H9
      go_wp2_with fail
      refine (DE.out _ g n kb kc _ HO9.out (HH.out.below ((four_below _ _ _ _ _).trans (HH9.out.mono (by omega))))).mono ?_
      rintro e w10 ⟨rfl, hoff, hnds⟩
      have b10 := (hoff.cell (World.block_lt_of_cell? _ _ b9) (by show ¬ (w7.heap.size = g ∨ w7.heap.size = kb pa); omega)).trans b9
      have r10 := (hoff.cell (World.block_lt_of_cell? _ _ i5) (by show ¬ (w.heap.size + 1 + 1 + 1 = g ∨ w.heap.size + 1 + 1 + 1 = kb pa); omega)).trans i5
      have f10 := fun o => (hoff.frozen (p := ⟨w.heap.size + 1 + 1 + 1, o, none⟩) (World.block_lt_of_cell? w9 ⟨w.heap.size + 1 + 1 + 1, 0, none⟩ i5) (by show ¬ (w.heap.size + 1 + 1 + 1 = g ∨ w.heap.size + 1 + 1 + 1 = kb pa); omega)).trans (i6 o)
      have HNDS : Hid _ := hnds
      have HB10 : Hid (Below w.heap.size w w10) := ((four_below _ _ _ _ _).trans (HH9.out.mono (by omega))).trans (hoff.below (by have := HH9.out.size; simp at this; omega) (fun k hk => by rcases hk with hk | hk <;> omega))
      have NS : Hid (∀ v (w3 : World), (∀ b, g ≤ b → w3.heap[b]? = (w10.setCell ⟨w.heap.size + 1 + 1 + 1, 0, none⟩ v).heap[b]?) → NdsAt w3 (some ⟨g, 0, none⟩) (enterS S pa ch at')) := fun v w3 hup => HNDS.out _ (fun b hb => (hup b hb).trans (Below.heap_setCell _ _ _ _ (by show b ≠ w.heap.size + 1 + 1 + 1; omega)))
      clear hnds hoff i0 i1 i2 i3 i4 i5 i6 b9
      go_wp2
      refine bodyPost_ret (v := .tuple #[.agg #[.slice (some ⟨g, 0, none⟩) n n], .int .i64 0]) (by simp [results, Try.results61, go_sem, r10]) rfl ⟨g, rfl, HB10.out.setCell (by simp; omega) _, by omega, NS.out _⟩
end Go.Proofs.Ytfcpgabimedjmaa

namespace Go.Proofs.Ytfcpgabimedjmaa
open Go.RowKit

def SK : Nat → List Nd
  | 0 => List.replicate 6 unusedNd
  | k + 1 => (SK k).set k (madeNd (nd (SK k) k) k)

def S4 : List Nd := enterS (SK 3) 0 1 0
def S5 : List Nd := enterS S4 0 2 0

theorem sk_len : ∀ k, (SK k).length = 6
  | 0 => rfl
  | k + 1 => by simp only [SK, List.length_set]; exact sk_len k

theorem sk_facts : ∀ k, k < 3 → (freeB (nd (SK k) k) = true ∧ (nd (SK k) k).n = 0 ∧ (∀ i, i < k → freeB (nd (SK k) i) = false) ∧ (∀ i, i < 6 → (nd (SK k) i).ks.length ≤ 1000) ∧ checkE (SK k) = 0) := by
  intro k hk
  match k, hk with
  | 0, _ => decide
  | 1, _ => decide
  | 2, _ => decide

theorem sk3_check : tcheckE (SK 3) [(((0 : Nat) : Int), 1), (((1 : Nat) : Int), 1)] = 0 := by decide
theorem s4_check : tcheckE S4 [(((0 : Nat) : Int), 1), (((2 : Nat) : Int), 1), (((1 : Nat) : Int), 1)] = 0 := by decide
theorem s5_check : tcheckE S5 [(((0 : Nat) : Int), 1)] = 0 := by decide
theorem s5_check2 : tcheckE S5 [(((1 : Nat) : Int), 1), (((0 : Nat) : Int), 1)] = 0 := by decide
theorem s5_order : orderF S5 6 0 = [0, 2, 1] := by decide
theorem s3_fit : fitsB (SK 3) 1 0 = true := by decide
theorem s4_fit : fitsB S4 2 0 = true := by decide
theorem s5_fit : fitsB S5 0 1 = false := by decide
theorem s3_p : (nd (SK 3) 1).p = -1 := by decide
theorem s4_p : (nd S4 2).p = -1 := by decide
theorem s4_q : (nd S4 1).p = ((0 : Nat) : Int) := by decide
theorem s4_at : idx (nd S4 0).ks ((1 : Nat) : Int) = ((0 : Nat) : Int) := by decide
theorem s3_at : (nd (SK 3) 0).ks.length = 0 := by decide
theorem s4_len : S4.length = 6 := by decide
theorem s5_len : S5.length = 6 := by decide
theorem sk3_ks : ∀ i, i < (SK 3).length → (nd (SK 3) i).ks.length ≤ 1000 := by decide
theorem s4_ks : ∀ i, i < S4.length → (nd S4 i).ks.length ≤ 1000 := by decide
theorem s5_ks : ∀ i, i < S5.length → (nd S5 i).ks.length ≤ 1000 := by decide
end Go.Proofs.Ytfcpgabimedjmaa

namespace Go.Proofs.Ytfcpgabimedjmaa
open Go.RowKit

/-- The loop's state: the store so far, the hands so far. -/
def FamI (W2 : World) (b3 bh : Nat) (k : Nat) (wr : World) : Prop :=
  Off (fun b => b = b3 ∨ b = bh) W2 wr ∧ (∃ g, wr.cell? ⟨b3, 0, none⟩ = some (.slice (some ⟨g, 0, none⟩) 6 6) ∧ NdsAt wr (some ⟨g, 0, none⟩) (SK k)) ∧
  (∀ i, i < 3 → wr.cell? ⟨bh, i * 2, none⟩ = some (.int .i64 (if i < k then (i : Int) else 0)) ∧ wr.cell? ⟨bh, i * 2 + 1, none⟩ = some (.int .i64 (if i < k then 1 else 0))) ∧
  (∀ o, wr.frozen? ⟨b3, o, none⟩ = false) ∧ (∀ o, wr.frozen? ⟨bh, o, none⟩ = false)

theorem addr_block {b b' o o' : Nat} (h : b ≠ b') : (⟨b, o, none⟩ : Addr) ≠ ⟨b', o', none⟩ := fun e => h (congrArg Addr.block e)
theorem addr_off {b b' o o' : Nat} (h : o ≠ o') : (⟨b, o, none⟩ : Addr) ≠ ⟨b', o', none⟩ := fun e => h (congrArg Addr.off e)

theorem FamI.step {W2 wr w4 : World} {b3 bh k g' : Nat} (h : FamI W2 b3 bh k wr) (hne : b3 ≠ bh) (hk : k < 3) (h3 : b3 < wr.heap.size) (hbh : bh < wr.heap.size) (hb : Below wr.heap.size wr w4) (hg : wr.heap.size ≤ g') (hS : ∀ w3 : World, (∀ b, g' ≤ b → w3.heap[b]? = w4.heap[b]?) → NdsAt w3 (some ⟨g', 0, none⟩) (SK (k + 1))) :
    FamI W2 b3 bh (k + 1) (((w4.setCell ⟨b3, 0, none⟩ (.slice (some ⟨g', 0, none⟩) 6 6)).setCell ⟨bh, k * 2, none⟩ (.int .i64 k)).setCell ⟨bh, k * 2 + 1, none⟩ (.int .i64 1)) := by
  obtain ⟨hoff, ⟨g, c3, _⟩, hh, f3, fh⟩ := h
  have c34 := (hb.cell (p := ⟨b3, 0, none⟩) h3).trans c3
  refine ⟨?_, ⟨g', ?_, ?_⟩, fun i hi => ?_, fun o => ?_, fun o => ?_⟩
  · exact (((hoff.trans (Off.of_below hb)).trans (off_setCell _ (Or.inl rfl) _)).trans (off_setCell _ (Or.inr rfl) _)).trans (off_setCell _ (Or.inr rfl) _)
  · rw [World.cell?_setCell_other _ _ _ _ (addr_block (Ne.symm hne)), World.cell?_setCell_other _ _ _ _ (addr_block (Ne.symm hne))]
    exact World.cell?_setCell_same _ _ _ c34
  · refine hS _ (fun b hbg => ?_)
    rw [Below.heap_setCell _ _ _ _ (by show b ≠ bh; omega), Below.heap_setCell _ _ _ _ (by show b ≠ bh; omega), Below.heap_setCell _ _ _ _ (by show b ≠ b3; omega)]
  · obtain ⟨x0, x1⟩ := hh i hi
    have y0 := (hb.cell (p := ⟨bh, i * 2, none⟩) hbh).trans x0
    have y1 := (hb.cell (p := ⟨bh, i * 2 + 1, none⟩) hbh).trans x1
    have z0 : (w4.setCell ⟨b3, 0, none⟩ (.slice (some ⟨g', 0, none⟩) 6 6)).cell? ⟨bh, i * 2, none⟩ = _ := (World.cell?_setCell_other _ _ _ _ (addr_block hne)).trans y0
    have z1 : (w4.setCell ⟨b3, 0, none⟩ (.slice (some ⟨g', 0, none⟩) 6 6)).cell? ⟨bh, i * 2 + 1, none⟩ = _ := (World.cell?_setCell_other _ _ _ _ (addr_block hne)).trans y1
    by_cases e : i = k
    · subst e
      rw [if_pos (by omega), if_pos (by omega)]
      constructor
      · rw [World.cell?_setCell_other _ _ _ _ (by simp)]
        exact World.cell?_setCell_same _ _ _ z0
      · refine World.cell?_setCell_same _ _ _ (u := .int .i64 (if i < i then 1 else 0)) ?_
        rw [World.cell?_setCell_other _ _ _ _ (by simp)]
        exact z1
    · have e1 : (if i < k + 1 then (i : Int) else 0) = if i < k then (i : Int) else 0 := by
        by_cases h : i < k
        · rw [if_pos h, if_pos (by omega)]
        · rw [if_neg h, if_neg (by omega)]
      have e2 : (if i < k + 1 then (1 : Int) else 0) = if i < k then (1 : Int) else 0 := by
        by_cases h : i < k
        · rw [if_pos h, if_pos (by omega)]
        · rw [if_neg h, if_neg (by omega)]
      rw [e1, e2]
      constructor
      · rw [World.cell?_setCell_other _ _ _ _ (addr_off (by omega)), World.cell?_setCell_other _ _ _ _ (addr_off (by omega))]
        exact z0
      · rw [World.cell?_setCell_other _ _ _ _ (addr_off (by omega)), World.cell?_setCell_other _ _ _ _ (addr_off (by omega))]
        exact z1
  · rw [World.frozen?_setCell, World.frozen?_setCell, World.frozen?_setCell]
    exact (hb.frozen (p := ⟨b3, o, none⟩) h3).trans (f3 o)
  · rw [World.frozen?_setCell, World.frozen?_setCell, World.frozen?_setCell]
    exact (hb.frozen (p := ⟨bh, o, none⟩) hbh).trans (fh o)

theorem heap_drew (X : World) : X.drew.heap = X.heap := rfl

theorem heap7 (W : World) (s : Nat) (v0 v1 v2 v3 v4 v5 v6 : Value) (b : Nat) (h0 : b ≠ s) (h1 : b ≠ s + 1) :
    ((((((((W.setCell ⟨s, 0, none⟩ v0).setCell ⟨s + 1, 0, none⟩ v1).setCell ⟨s + 1, 1, none⟩ v2).setCell ⟨s + 1, 2, none⟩ v3).setCell ⟨s + 1, 3, none⟩ v4).setCell ⟨s + 1, 4, none⟩ v5).setCell ⟨s + 1, 5, none⟩ v6).drew).heap[b]? = W.heap[b]? := by
  rw [heap_drew]
  rw [Below.heap_setCell _ _ _ _ h1, Below.heap_setCell _ _ _ _ h1, Below.heap_setCell _ _ _ _ h1, Below.heap_setCell _ _ _ _ h1, Below.heap_setCell _ _ _ _ h1, Below.heap_setCell _ _ _ _ h1, Below.heap_setCell _ _ _ _ h0]

end Go.Proofs.Ytfcpgabimedjmaa
