/-
  The contract of tree.Insert: where the node doesn't fit; where it has no Parent yet.
-/
import Derived.Test.YtgjfmepbphfjoaaGreatUTjUa
import Derived.Deep.RegionLawGrows
import Derived.Deep.RegionHeld3
namespace Go.Proofs.YtgjfmepbphfjoaaGreat
open Go.RowKit

theorem info39 : (Tryz.prog.info? 39).map (fun i => (i.zero, i.size, i.bytes)) = some (some (.agg #[.int .i64 0, .int .i64 0]), 2, 16) := by kernel_rfl

set_option maxHeartbeats 400000 in
theorem containsHand_any (ha : Option Addr) (hc : Nat) (hs : List (Int × Int)) (p u : Int) (w : World) (hL : hs.length ≤ 9223372036854775807) (hH : HandsAt w ha hs) :
    Calls Tryz.prog 134 #[.slice ha hs.length hc, .agg #[.int .i64 p, .int .i64 u]] w fun e w' => e = .returned (.bool (decide ((p, u) ∈ hs))) ∧ Below w.heap.size w w' := by
  have d1 := fun o1 => hasHand_any ha hc hs p u (w.alloc o1) hL (hH.below ((Below.refl _ _).alloc (Nat.le_refl _) o1))
  have R : Hid (∀ r : Int, ((0 ≤ r) ↔ (p, u) ∈ hs) → decide (0 ≤ r) = decide ((p, u) ∈ hs)) := fun r h => by
    by_cases e : (p, u) ∈ hs
    · rw [decide_eq_true e, decide_eq_true (h.2 e)]
    · rw [decide_eq_false e, decide_eq_false (fun x => e (h.1 x))]
  clear hH
  generalize decide ((p, u) ∈ hs) = q at *
  generalize ((p, u) ∈ hs) = Q at *
  generalize hs.length = m at *
  go_enter Tryz.func134, Tryz.ntmps134
  go_wp2_with (go_at_call 144; refine (d1 _).mono ?_; rintro e w1 ⟨r, rfl, hb, hr⟩; have HR : Hid _ := hr; clear hr)
  go_ret
  refine ⟨?_, ((Below.refl _ _).alloc (Nat.le_refl _) _).trans (hb.mono (by simp))⟩
  rw [← R.out r HR.out]
  rfl

theorem ins_low4 {w w1 : World} {a : Option Addr} {n c : Nat} {p pu x xu : Int} (hb : Below (w.heap.size + 1 + 1 + 1 + 1) ((((w.alloc (.cells #[.slice a n c] 24)).alloc (.cells #[.int .i64 p, .int .i64 pu] 39)).alloc (.cells #[.int .i64 x, .int .i64 xu] 39)).alloc (.cells #[.slice none 0 0] 24)) w1) :
    w1.cell? ⟨w.heap.size, 0, none⟩ = some (.slice a n c) ∧ w1.cell? ⟨w.heap.size + 1, 0, none⟩ = some (.int .i64 p) ∧ w1.cell? ⟨w.heap.size + 1, 1, none⟩ = some (.int .i64 pu) ∧ w1.cell? ⟨w.heap.size + 1 + 1, 0, none⟩ = some (.int .i64 x) ∧ w1.cell? ⟨w.heap.size + 1 + 1, 1, none⟩ = some (.int .i64 xu) ∧ w1.cell? ⟨w.heap.size + 1 + 1 + 1, 0, none⟩ = some (.slice none 0 0) ∧ (∀ o, w1.frozen? ⟨w.heap.size + 1 + 1 + 1, o, none⟩ = false) := by
  refine ⟨?_, ?_, ?_, ?_, ?_, ?_, fun o => ?_⟩
  · exact (hb.cell (by first | (simp; done) | (simp; omega))).trans (by go_simp)
  · exact (hb.cell (by first | (simp; done) | (simp; omega))).trans (by go_simp)
  · exact (hb.cell (by first | (simp; done) | (simp; omega))).trans (by go_simp)
  · exact (hb.cell (by first | (simp; done) | (simp; omega))).trans (by go_simp)
  · exact (hb.cell (by first | (simp; done) | (simp; omega))).trans (by go_simp)
  · exact (hb.cell (by first | (simp; done) | (simp; omega))).trans (by go_simp)
  · exact (hb.frozen (by first | (simp; done) | (simp; omega))).trans (by go_simp)

theorem four_below (w : World) (o1 o2 o3 o4 : Obj) : Below w.heap.size w ((((w.alloc o1).alloc o2).alloc o3).alloc o4) := (three_below w o1 o2 o3).alloc (by simp; omega) _

theorem one_more {w1 : World} {p : Addr} {v : Value} (h : w1.cell? p = some v) (o1 : Obj) : (w1.alloc o1).cell? p = some v :=
  (((Below.refl _ _).alloc (Nat.le_refl _) o1).cell (World.block_lt_of_cell? _ _ h)).trans h

theorem hands_two (W : World) (b : Nat) (p u x y : Int) (h1 : W.cell? ⟨b, 0, none⟩ = some (.int .i64 p)) (h2 : W.cell? ⟨b, 1, none⟩ = some (.int .i64 u)) (h3 : W.cell? ⟨b, 2, none⟩ = some (.int .i64 x)) (h4 : W.cell? ⟨b, 3, none⟩ = some (.int .i64 y)) : HandsAt W (some ⟨b, 0, none⟩) [(p, u), (x, y)] := fun i hi => by
  match i, hi with
  | 0, _ => exact ⟨b, 0, rfl, by simpa using h1, by simpa using h2⟩
  | 1, _ => exact ⟨b, 0, rfl, by simpa using h3, by simpa using h4⟩

set_option maxHeartbeats 1000000 in
theorem insert_nil_bad (a : Option Addr) (c : Nat) (S : List Nd) (pa ch : Nat) (pu cu : Int) (w : World) (hN : S.length ≤ 24) (hB : Big S) (hS : NdsAt w a S) (hE : tcheckE S [((pa : Int), pu), ((ch : Int), cu)] = 0) (hch : ch < S.length) (hfit : fitsB S ch pa = false) :
    Calls Tryz.prog 112 #[.agg #[.slice a S.length c], .agg #[.int .i64 (pa : Int), .int .i64 pu], .agg #[.int .i64 (ch : Int), .int .i64 cu], .slice none 0 0] w fun e w' => e = .returned (.tuple #[.agg #[.slice none 0 0], .int .i64 6]) ∧ Below w.heap.size w w' := by
  have d1 := fun (W : World) (ha : Option Addr) (hcc : Nat) (hW : NdsAt W a S) (hH : HandsAt W ha [((pa : Int), pu), ((ch : Int), cu)]) => tcheck_any a c S ha hcc [((pa : Int), pu), ((ch : Int), cu)] W (by omega) hB hW (by simp) hH
  rw [hE] at d1
  have D1 : Hid _ := d1
  have df := fun (W : World) (hW : NdsAt W a S) => fitsUnder_any a c S ch pa W (by omega) hch hW
  rw [hfit] at df
  have DF : Hid _ := df
  have HS : Hid (NdsAt w a S) := hS
  clear hS d1 df hE hB hfit
  generalize hn : S.length = n at *
  have HN : Hid _ := hn
  clear hn
  go_enter Tryz.func112, Tryz.ntmps112
  go_wp2_with fail
  obtain ⟨W4, hW4⟩ : ∃ W4, W4 = ((((w.alloc (.cells #[.slice a n c] 24)).alloc (.cells #[.int .i64 (pa : Int), .int .i64 pu] 39)).alloc (.cells #[.int .i64 (ch : Int), .int .i64 cu] 39)).alloc (.cells #[.slice none 0 0] 24)) := ⟨_, rfl⟩
  rw [← hW4]
  have hb4 : Below (w.heap.size + 1 + 1 + 1 + 1) ((((w.alloc (.cells #[.slice a n c] 24)).alloc (.cells #[.int .i64 (pa : Int), .int .i64 pu] 39)).alloc (.cells #[.int .i64 (ch : Int), .int .i64 cu] 39)).alloc (.cells #[.slice none 0 0] 24)) W4 := by rw [hW4]; exact Below.refl _ _
  obtain ⟨l0, l1, l2, l3, l4, l5, l6⟩ := ins_low4 hb4
  have hsz4 : W4.heap.size = w.heap.size + 1 + 1 + 1 + 1 := by rw [hW4]; simp
  have HB4 : Hid (Below w.heap.size w W4) := (four_below _ _ _ _ _).trans (hb4.mono (by omega))
  have HBB : Hid (Below (w.heap.size + 1 + 1 + 1 + 1) ((((w.alloc (.cells #[.slice a n c] 24)).alloc (.cells #[.int .i64 (pa : Int), .int .i64 pu] 39)).alloc (.cells #[.int .i64 (ch : Int), .int .i64 cu] 39)).alloc (.cells #[.slice none 0 0] 24)) W4) := hb4
  clear hW4 hb4
  have ne0 := World.new_ne W4 _ l0
  have ne1 := World.new_ne W4 _ l1
  have ne2 := World.new_ne W4 _ l2
  have ne3 := World.new_ne W4 _ l3
  have ne4 := World.new_ne W4 _ l4
  go_region_held3 (fun w'' => w''.cell? ⟨w.heap.size, 0, none⟩ = some (.slice a n c) ∧ w''.cell? ⟨w.heap.size + 1, 0, none⟩ = some (.int .i64 (pa : Int)) ∧ w''.cell? ⟨w.heap.size + 1, 1, none⟩ = some (.int .i64 pu) ∧ w''.cell? ⟨w.heap.size + 1 + 1, 0, none⟩ = some (.int .i64 (ch : Int)) ∧ w''.cell? ⟨w.heap.size + 1 + 1, 1, none⟩ = some (.int .i64 cu)) (go_keep) (first | (go_at_call 105; refine (D1.out _ _ 2 (HS.out.below (HB4.out.alloc (by omega) _).drew) (hands_two _ _ _ _ _ _ (by go_simp) (by go_simp) (by go_simp) (by go_simp))).mono ?_; rintro e w5 ⟨rfl, hb5⟩; have hB5 : Below (w.heap.size + 1 + 1 + 1 + 1) ((((w.alloc (.cells #[.slice a n c] 24)).alloc (.cells #[.int .i64 (pa : Int), .int .i64 pu] 39)).alloc (.cells #[.int .i64 (ch : Int), .int .i64 cu] 39)).alloc (.cells #[.slice none 0 0] 24)) w5 := (HBB.out.alloc (by omega) _).drew.trans (hb5.mono (by simp; omega)); obtain ⟨k0, k1, k2, k3, k4, k5, k6⟩ := ins_low4 hB5; have H5 : Hid (Below (w.heap.size + 1 + 1 + 1 + 1) ((((w.alloc (.cells #[.slice a n c] 24)).alloc (.cells #[.int .i64 (pa : Int), .int .i64 pu] 39)).alloc (.cells #[.int .i64 (ch : Int), .int .i64 cu] 39)).alloc (.cells #[.slice none 0 0] 24)) w5) := hB5; clear hb5 hB5))
  have hB5w : Below w.heap.size w w5 := (four_below _ _ _ _ _).trans (H5.out.mono (by omega))
  go_wp2_with (go_at_call 133; refine (DF.out _ (HS.out.below hB5w)).mono ?_; rintro e w6 ⟨rfl, hb6⟩; have hs5 := H5.out.size; simp only [World.size_alloc] at hs5; have hB6 : Below (w.heap.size + 1 + 1 + 1 + 1) ((((w.alloc (.cells #[.slice a n c] 24)).alloc (.cells #[.int .i64 (pa : Int), .int .i64 pu] 39)).alloc (.cells #[.int .i64 (ch : Int), .int .i64 cu] 39)).alloc (.cells #[.slice none 0 0] 24)) w6 := H5.out.trans (hb6.mono hs5); obtain ⟨j0, j1, j2, j3, j4, j5, j6⟩ := ins_low4 hB6; have H6 : Hid (Below (w.heap.size + 1 + 1 + 1 + 1) ((((w.alloc (.cells #[.slice a n c] 24)).alloc (.cells #[.int .i64 (pa : Int), .int .i64 pu] 39)).alloc (.cells #[.int .i64 (ch : Int), .int .i64 cu] 39)).alloc (.cells #[.slice none 0 0] 24)) w6) := hB6; clear hb6 hB6 hs5)
  refine bodyPost_ret (v := .tuple #[.agg #[.slice none 0 0], .int .i64 6]) (by simp [results, Tryz.results112, go_sem, j5]) rfl ⟨rfl, ?_⟩
  exact ((four_below _ _ _ _ _).trans (H6.out.mono (by omega))).setCell (by simp; omega) _

set_option maxHeartbeats 2000000 in
theorem insert_nil_ok (a : Option Addr) (c : Nat) (S : List Nd) (pa ch : Nat) (pu cu : Int) (w : World) (hN : S.length ≤ 24) (hB : Big S) (hS : NdsAt w a S) (hE : tcheckE S [((pa : Int), pu), ((ch : Int), cu)] = 0) (hch : ch < S.length) (hpa : pa < S.length) (hne : pa ≠ ch) (hfit : fitsB S ch pa = true) (hpn : (nd S ch).p = -1) (hK : ∀ i, i < S.length → (nd S i).ks.length ≤ 1000) :
    Calls Tryz.prog 112 #[.agg #[.slice a S.length c], .agg #[.int .i64 (pa : Int), .int .i64 pu], .agg #[.int .i64 (ch : Int), .int .i64 cu], .slice none 0 0] w fun e w' => ∃ g, e = .returned (.tuple #[.agg #[.slice (some ⟨g, 0, none⟩) S.length S.length], .int .i64 0]) ∧ Below w.heap.size w w' ∧ w.heap.size ≤ g ∧ ∀ w3 : World, (∀ b, g ≤ b → w3.heap[b]? = w'.heap[b]?) → NdsAt w3 (some ⟨g, 0, none⟩) (enterS S pa ch (nd S pa).ks.length) := by
  have d1 := fun (W : World) (ha : Option Addr) (hcc : Nat) (hW : NdsAt W a S) (hH : HandsAt W ha [((pa : Int), pu), ((ch : Int), cu)]) => tcheck_any a c S ha hcc [((pa : Int), pu), ((ch : Int), cu)] W (by omega) hB hW (by simp) hH
  rw [hE] at d1
  have D1 : Hid _ := d1
  have df := fun (W : World) (hW : NdsAt W a S) => fitsUnder_any a c S ch pa W (by omega) hch hW
  rw [hfit] at df
  have DF : Hid _ := df
  have HS : Hid (NdsAt w a S) := hS
  have dc := fun (W : World) (hW : NdsAt W a S) => copy_any a c S W hN hK hW
  have DC : Hid _ := dc
  have dh := fun (W : World) => containsHand_any none 0 [] (ch : Int) cu W (by simp) (fun i hi => absurd hi (Nat.not_lt_zero _))
  rw [decide_eq_false (by simp)] at dh
  have DH : Hid _ := dh
  have de := fun (B g c : Nat) (kb kc : Nat → Nat) (W : World) (hO : Own W B g S kb kc S.length) => enter_any B g c S kb kc pa ch (nd S pa).ks.length none 0 [] W hO hpa hch hne (by simp) (fun i hi => absurd hi (Nat.not_lt_zero _)) rfl (Nat.le_refl _)
  have DE : Hid _ := de
  have OC : Hid (∀ (wr : World) (B g : Nat) (kb kc : Nat → Nat), Own wr B g S kb kc S.length → B ≤ g ∧ g < wr.heap.size ∧ g < kb pa ∧ kb pa < wr.heap.size ∧ wr.cell? ⟨g, ch * 8 + 4, none⟩ = some (.int .i64 (-1))) := fun wr B g kb kc h => by
    obtain ⟨hB, F, hF, hNd, hg, _⟩ := h
    obtain ⟨_, _, _, _, e4, _⟩ := hNd ch hch
    exact ⟨hB, hF.lt, hg pa hpa, (hNd pa hpa).row, by rw [hF.cell (by omega), e4, hpn]⟩
  clear dc dh de hK
  clear hS d1 df hE hB hfit
  generalize hn : S.length = n at *
  have HN : Hid _ := hn
  clear hn
  go_enter Tryz.func112, Tryz.ntmps112
  go_wp2_with fail
  obtain ⟨W4, hW4⟩ : ∃ W4, W4 = ((((w.alloc (.cells #[.slice a n c] 24)).alloc (.cells #[.int .i64 (pa : Int), .int .i64 pu] 39)).alloc (.cells #[.int .i64 (ch : Int), .int .i64 cu] 39)).alloc (.cells #[.slice none 0 0] 24)) := ⟨_, rfl⟩
  rw [← hW4]
  have hb4 : Below (w.heap.size + 1 + 1 + 1 + 1) ((((w.alloc (.cells #[.slice a n c] 24)).alloc (.cells #[.int .i64 (pa : Int), .int .i64 pu] 39)).alloc (.cells #[.int .i64 (ch : Int), .int .i64 cu] 39)).alloc (.cells #[.slice none 0 0] 24)) W4 := by rw [hW4]; exact Below.refl _ _
  obtain ⟨l0, l1, l2, l3, l4, l5, l6⟩ := ins_low4 hb4
  have hsz4 : W4.heap.size = w.heap.size + 1 + 1 + 1 + 1 := by rw [hW4]; simp
  have HB4 : Hid (Below w.heap.size w W4) := (four_below _ _ _ _ _).trans (hb4.mono (by omega))
  have HBB : Hid (Below (w.heap.size + 1 + 1 + 1 + 1) ((((w.alloc (.cells #[.slice a n c] 24)).alloc (.cells #[.int .i64 (pa : Int), .int .i64 pu] 39)).alloc (.cells #[.int .i64 (ch : Int), .int .i64 cu] 39)).alloc (.cells #[.slice none 0 0] 24)) W4) := hb4
  clear hW4 hb4
  have ne0 := World.new_ne W4 _ l0
  have ne1 := World.new_ne W4 _ l1
  have ne2 := World.new_ne W4 _ l2
  have ne3 := World.new_ne W4 _ l3
  have ne4 := World.new_ne W4 _ l4
  go_region_held3 (fun w'' => w''.cell? ⟨w.heap.size, 0, none⟩ = some (.slice a n c) ∧ w''.cell? ⟨w.heap.size + 1, 0, none⟩ = some (.int .i64 (pa : Int)) ∧ w''.cell? ⟨w.heap.size + 1, 1, none⟩ = some (.int .i64 pu) ∧ w''.cell? ⟨w.heap.size + 1 + 1, 0, none⟩ = some (.int .i64 (ch : Int)) ∧ w''.cell? ⟨w.heap.size + 1 + 1, 1, none⟩ = some (.int .i64 cu)) (go_keep) (first | (go_at_call 105; refine (D1.out _ _ 2 (HS.out.below (HB4.out.alloc (by omega) _).drew) (hands_two _ _ _ _ _ _ (by go_simp) (by go_simp) (by go_simp) (by go_simp))).mono ?_; rintro e w5 ⟨rfl, hb5⟩; have hB5 : Below (w.heap.size + 1 + 1 + 1 + 1) ((((w.alloc (.cells #[.slice a n c] 24)).alloc (.cells #[.int .i64 (pa : Int), .int .i64 pu] 39)).alloc (.cells #[.int .i64 (ch : Int), .int .i64 cu] 39)).alloc (.cells #[.slice none 0 0] 24)) w5 := (HBB.out.alloc (by omega) _).drew.trans (hb5.mono (by simp; omega)); obtain ⟨k0, k1, k2, k3, k4, k5, k6⟩ := ins_low4 hB5; have H5 : Hid (Below (w.heap.size + 1 + 1 + 1 + 1) ((((w.alloc (.cells #[.slice a n c] 24)).alloc (.cells #[.int .i64 (pa : Int), .int .i64 pu] 39)).alloc (.cells #[.int .i64 (ch : Int), .int .i64 cu] 39)).alloc (.cells #[.slice none 0 0] 24)) w5) := hB5; clear hb5 hB5))
  have hB5w : Below w.heap.size w w5 := (four_below _ _ _ _ _).trans (H5.out.mono (by omega))
  go_wp2_with (go_at_call 133; refine (DF.out _ (HS.out.below hB5w)).mono ?_; rintro e w6 ⟨rfl, hb6⟩; have hs5 := H5.out.size; simp only [World.size_alloc] at hs5; have hB6 : Below (w.heap.size + 1 + 1 + 1 + 1) ((((w.alloc (.cells #[.slice a n c] 24)).alloc (.cells #[.int .i64 (pa : Int), .int .i64 pu] 39)).alloc (.cells #[.int .i64 (ch : Int), .int .i64 cu] 39)).alloc (.cells #[.slice none 0 0] 24)) w6 := H5.out.trans (hb6.mono hs5); obtain ⟨j0, j1, j2, j3, j4, j5, j6⟩ := ins_low4 hB6; have H6 : Hid (Below (w.heap.size + 1 + 1 + 1 + 1) ((((w.alloc (.cells #[.slice a n c] 24)).alloc (.cells #[.int .i64 (pa : Int), .int .i64 pu] 39)).alloc (.cells #[.int .i64 (ch : Int), .int .i64 cu] 39)).alloc (.cells #[.slice none 0 0] 24)) w6) := hB6; clear hb6 hB6 hs5)
  have hB6w : Below w.heap.size w w6 := (four_below _ _ _ _ _).trans (H6.out.mono (by omega))
  have hs6 := H6.out.size
  simp only [World.size_alloc] at hs6
  clear k0 k1 k2 k3 k4 k5 k6 hB5w
  go_loopg [39] 0 (fun _ s39 wr => s39 = .int .i64 0 ∧ wr = w6)
  case atStart => exact ⟨rfl, rfl⟩
  case round =>
    obtain ⟨rfl, rfl⟩ := hrel
    go_wp2_with fail
    refine (DC.out _ (HS.out.below hB6w)).mono ?_
    rintro e w7 ⟨g, kb, kc, rfl, hb7, hO7⟩
    obtain ⟨hgB, hgl, hgk, hkl, c4⟩ := OC.out _ _ _ _ _ hO7
    have hs7 := hb7.size
    have H7 : Hid (Below (w.heap.size + 1 + 1 + 1 + 1) ((((w.alloc (.cells #[.slice a n c] 24)).alloc (.cells #[.int .i64 (pa : Int), .int .i64 pu] 39)).alloc (.cells #[.int .i64 (ch : Int), .int .i64 cu] 39)).alloc (.cells #[.slice none 0 0] 24)) w7) := H6.out.trans (hb7.mono hs6)
    have HO7 : Hid (Own w7 wr.heap.size g S kb kc n) := hO7
    obtain ⟨i0, i1, i2, i3, i4, i5, i6⟩ := ins_low4 H7.out
    have M7 : Hid (∀ w8 o1, Below (w7.heap.size + 1) (w7.alloc o1) w8 → Below (w.heap.size + 1 + 1 + 1 + 1) ((((w.alloc (.cells #[.slice a n c] 24)).alloc (.cells #[.int .i64 (pa : Int), .int .i64 pu] 39)).alloc (.cells #[.int .i64 (ch : Int), .int .i64 cu] 39)).alloc (.cells #[.slice none 0 0] 24)) w8 ∧ Below w7.heap.size w7 w8) := fun w8 o1 h => ⟨(H7.out.alloc (by omega) o1).trans (h.mono (by omega)), ((Below.refl _ _).alloc (Nat.le_refl _) o1).trans (h.mono (by omega))⟩
    have I3 := one_more i3
    have I4 := one_more i4
    clear j0 j1 j2 j3 j4 j5 j6 hb7 hO7
    go_wp2_with fail
    refine (DH.out _).mono ?_
    rintro e w8 ⟨rfl, hb8⟩
    simp only [World.size_alloc] at hb8
    have b8 : w8.cell? ⟨w7.heap.size, 0, none⟩ = some (.slice (some ⟨g, 0, none⟩) n n) := store_low hb8
    obtain ⟨H8, hb78⟩ := M7.out _ _ hb8
    have hs8 := hb8.size
    simp only [World.size_alloc] at hs8
    have c48 := (hb78.cell (by exact hgl)).trans c4
    have HH8 : Hid (Below (w.heap.size + 1 + 1 + 1 + 1) ((((w.alloc (.cells #[.slice a n c] 24)).alloc (.cells #[.int .i64 (pa : Int), .int .i64 pu] 39)).alloc (.cells #[.int .i64 (ch : Int), .int .i64 cu] 39)).alloc (.cells #[.slice none 0 0] 24)) w8) := H8
    have HO8 : Hid (Own w8 wr.heap.size g S kb kc n) := Own.below HO7.out hb78
    clear i0 i1 i2 i3 i4 i5 i6 hb8 I3 I4
    obtain ⟨i0, i1, i2, i3, i4, i5, i6⟩ := ins_low4 H8
    clear H8
    go_wp2_with fail
    refine (leave_none g n n ch _ (by omega) c48).mono ?_
    rintro e w9 ⟨rfl, hb9⟩
    have hs9 := hb9.size
    have b9 := (hb9.cell (World.block_lt_of_cell? _ _ b8)).trans b8
    have H9 : Below (w.heap.size + 1 + 1 + 1 + 1) ((((w.alloc (.cells #[.slice a n c] 24)).alloc (.cells #[.int .i64 (pa : Int), .int .i64 pu] 39)).alloc (.cells #[.int .i64 (ch : Int), .int .i64 cu] 39)).alloc (.cells #[.slice none 0 0] 24)) w9 := HH8.out.trans (hb9.mono (by omega))
    have HO9 : Hid (Own w9 wr.heap.size g S kb kc n) := Own.below HO8.out hb9
    have HH9 : Hid (Below (w.heap.size + 1 + 1 + 1 + 1) ((((w.alloc (.cells #[.slice a n c] 24)).alloc (.cells #[.int .i64 (pa : Int), .int .i64 pu] 39)).alloc (.cells #[.int .i64 (ch : Int), .int .i64 cu] 39)).alloc (.cells #[.slice none 0 0] 24)) w9) := H9
    clear i0 i1 i2 i3 i4 i5 i6 b8 c48 hb9
    obtain ⟨i0, i1, i2, i3, i4, i5, i6⟩ := ins_low4 H9
    clear H9
    go_wp2_with fail
    refine (DE.out _ g n kb kc _ HO9.out).mono ?_
    rintro e w10 ⟨rfl, hoff, hnds⟩
    have b10 := (hoff.cell (World.block_lt_of_cell? _ _ b9) (by show ¬ (w7.heap.size = g ∨ w7.heap.size = kb pa); omega)).trans b9
    have r10 := (hoff.cell (World.block_lt_of_cell? _ _ i5) (by show ¬ (w.heap.size + 1 + 1 + 1 = g ∨ w.heap.size + 1 + 1 + 1 = kb pa); omega)).trans i5
    have f10 := fun o => (hoff.frozen (p := ⟨w.heap.size + 1 + 1 + 1, o, none⟩) (World.block_lt_of_cell? w9 ⟨w.heap.size + 1 + 1 + 1, 0, none⟩ i5) (by show ¬ (w.heap.size + 1 + 1 + 1 = g ∨ w.heap.size + 1 + 1 + 1 = kb pa); omega)).trans (i6 o)
    have HNDS : Hid _ := hnds
    have HB10 : Hid (Below w.heap.size w w10) := ((four_below _ _ _ _ _).trans (HH9.out.mono (by omega))).trans (hoff.below (by have := HH9.out.size; simp at this; omega) (fun k hk => by rcases hk with hk | hk <;> omega))
    have NS : Hid (∀ v (w3 : World), (∀ b, g ≤ b → w3.heap[b]? = (w10.setCell ⟨w.heap.size + 1 + 1 + 1, 0, none⟩ v).heap[b]?) → NdsAt w3 (some ⟨g, 0, none⟩) (enterS S pa ch (nd S pa).ks.length)) := fun v w3 hup => HNDS.out _ (fun b hb => (hup b hb).trans (Below.heap_setCell _ _ _ _ (by show b ≠ w.heap.size + 1 + 1 + 1; omega)))
    clear hnds hoff i0 i1 i2 i3 i4 i5 i6 b9
    go_wp2
    refine bodyPost_ret (v := .tuple #[.agg #[.slice (some ⟨g, 0, none⟩) n n], .int .i64 0]) (by simp [results, Tryz.results112, go_sem, r10]) rfl ⟨g, rfl, HB10.out.setCell (by simp; omega) _, by omega, NS.out _⟩
end Go.Proofs.YtgjfmepbphfjoaaGreat
