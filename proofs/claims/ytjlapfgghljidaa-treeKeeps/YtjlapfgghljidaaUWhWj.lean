/-
  The law TreeKeeps: the walk where the node is put: ahead of itself.
-/
import Derived.Test.YtjlapfgghljidaaUWg
import Derived.Test.YtjlapfgghljidaaUWo
import Derived.Test.YtjlapfgghljidaaUWc
import Derived.Test.YtjlapfgghljidaaUWi
namespace Go.Proofs.Ytjlapfgghljidaa
open Go.RowKit

set_option maxRecDepth 100000 in
set_option maxHeartbeats 4000000 in
theorem keepsS (G : GrownOk) (a : Option Addr) (c : Nat) (S A : List Nd) (pa ch : Nat) (pu cu : Int) (hb0 ho0 hc : Nat) (w : World) (hS : NdsAt w a S) (hB : Big S)
    (hI : ∀ W, Below w.heap.size w W → Calls Try.prog 25 #[.agg #[.slice a S.length c], .agg #[.int .i64 (pa : Int), .int .i64 pu], .agg #[.int .i64 (ch : Int), .int .i64 cu], .slice (some ⟨hb0, ho0, none⟩) 1 hc] W fun e w' => ∃ g, e = .returned (.tuple #[.agg #[.slice (some ⟨g, 0, none⟩) S.length S.length], .int .i64 0]) ∧ Below W.heap.size W w' ∧ NdsAt w' (some ⟨g, 0, none⟩) A)
    (hl : A.length = S.length) (wfS : WF S) (wfA : WF A) (hpa : pa < S.length) (hch : ch < S.length) (hcS : (nd S ch).u = true ∧ (nd S ch).n = cu) (hpA : (nd A pa).u = true ∧ (nd A pa).n = pu) (hcA : (nd A ch).u = true ∧ (nd A ch).n = cu) (hp : (nd A ch).p = pa)
    (k : Nat) (hk : idx (nd A pa).ks ch = k) (hH : HandsAt w (some ⟨hb0, ho0, none⟩) [((ch : Int), cu)]) 
    (hord : orderS A ch = orderS S ch) (hwas : 0 ≤ (nd S ch).p ∨ leaveS A pa ch = S) :
    Calls Try.prog 7 #[.agg #[.slice a S.length c], .agg #[.int .i64 (pa : Int), .int .i64 pu], .agg #[.int .i64 (ch : Int), .int .i64 cu], .slice (some ⟨hb0, ho0, none⟩) 1 hc] w fun e w' => e = .returned (.bool true) ∧ Below w.heap.size w w' := by
  have hN24 := wfS.small
  have hBA : Big A := wfA.big
  have KA : Hid (∀ i, i < A.length → (nd A i).ks.length ≤ 1000) := fun i hi => by have := wfA.kids_small hi; omega
  have wfB : WF (leaveS A pa ch) := wfA.leave (by omega) hp
  have eA : checkE A = 0 := (wf_iff A).2 wfA
  have eB : checkE (leaveS A pa ch) = 0 := (wf_iff _).2 wfB
  have fch : findE A ch cu = 0 := holds_of (by omega) hcA.1 hcA.2 wfA
  have fpa : findE A pa pu = 0 := holds_of (by omega) hpA.1 hpA.2 wfA
  have fS : findE S ch cu = 0 := holds_of hch hcS.1 hcS.2 wfS
  have tS : tcheckE S [((ch : Int), cu)] = 0 := tcheck_of hch hcS.1 hcS.2 wfS
  have tA : tcheckE A [((ch : Int), cu)] = 0 := tcheck_of (by omega) hcA.1 hcA.2 wfA
  have hlB : (leaveS A pa ch).length = S.length := by rw [leaveS_length, hl]
  have hne : pa ≠ ch := by
    obtain ⟨p0, e0, _, e2, _⟩ := wfA.parent_place (ch := ch) (by omega) (by omega)
    have : p0 = pa := by omega
    rw [← this]; exact e2
  have D1 : Hid (∀ g W, NdsAt W (some ⟨g, 0, none⟩) A → Calls _ _ _ _ _) := fun g W hW => find_ok (some ⟨g, 0, none⟩) S.length A ch cu W (by omega) hBA hW (by omega) fch (by have := KA.out ch (by omega); omega)
  have D2 : Hid (∀ g W, NdsAt W (some ⟨g, 0, none⟩) A → Calls _ _ _ _ _) := fun g W hW => find_ok (some ⟨g, 0, none⟩) S.length A pa pu W (by omega) hBA hW (by omega) fpa (by have := KA.out pa (by omega); omega)
  have d3 := fun g W (hW : NdsAt W (some ⟨g, 0, none⟩) A) => check_any (some ⟨g, 0, none⟩) S.length A W (by omega) hBA hW
  rw [eA] at d3
  have D3 : Hid _ := d3
  have d4 := fun ga W (hW : IntsAt W ga (nd A pa).ks) => index_any ga (nd A pa).ks.length (nd A pa).ks (ch : Int) W (by have := KA.out pa (by omega); omega) hW
  rw [hk] at d4
  have D4 : Hid _ := d4
  have d5 := fun W (hW : NdsAt W a S) => order_ok a c S ch S.length cu W (by omega) hB hW tS hch (wfS.deep_all hch) (by have := order_le wfS hch; omega)
  have D5 : Hid _ := d5
  have d6 := fun g W (hW : NdsAt W (some ⟨g, 0, none⟩) A) => order_ok (some ⟨g, 0, none⟩) S.length A ch A.length cu W (by omega) hBA hW tA (by omega) (wfA.deep_all (by omega)) (by have := order_le wfA (p := ch) (by omega); omega)
  rw [show orderF A A.length ch = orderF S S.length ch from hord] at d6
  have D6 : Hid _ := d6
  have D7 : Hid (∀ g W, NdsAt W (some ⟨g, 0, none⟩) A → Calls _ _ _ _ _) := fun g W hW => remove_ok (some ⟨g, 0, none⟩) S.length A ch pa cu W (by omega) hBA hW tA (by omega) (by omega) hne hp KA.out
  have d8 := fun sa sb ca cb W (h1 : IntsAt W sa (orderF S S.length ch)) (h2 : IntsAt W sb (orderF S S.length ch)) => equal_any sa sb ca cb (orderF S S.length ch) (orderF S S.length ch) W (by have := order_le wfS hch; omega) h1 h2
  rw [decide_eq_true rfl] at d8
  have D8 : Hid _ := d8
  have d9 := fun g W (hW : NdsAt W (some ⟨g, 0, none⟩) (leaveS A pa ch)) => check_any (some ⟨g, 0, none⟩) S.length (leaveS A pa ch) W (by omega) wfB.big hW
  rw [eB] at d9
  have D9 : Hid _ := d9
  have D10 : Hid (∀ W, NdsAt W a S → Calls _ _ _ _ _) := fun W hW => find_ok a c S ch cu W (by omega) hB hW hch fS (by have := wfS.kids_small hch; omega)
  have D11 : Hid (∀ g W, NdsAt W (some ⟨g, 0, none⟩) (leaveS A pa ch) → NdsAt W a S → Calls _ _ _ _ _) := fun g W h1 h2 => same_any (some ⟨g, 0, none⟩) a S.length c (leaveS A pa ch) S W (by omega) wfB.big h1 h2
  rw [hl] at D1 D2 D3 D6 D7
  rw [hlB] at D9 D11
  have HI : Hid _ := hI
  have HS : Hid (NdsAt w a S) := hS
  have HW : Hid (0 ≤ (nd S ch).p ∨ leaveS A pa ch = S) := hwas
  have HC : Hid (∀ W, Below w.heap.size w W → W.cell? ⟨hb0, ho0, none⟩ = some (.int .i64 (ch : Int)) ∧ W.cell? ⟨hb0, ho0 + 1, none⟩ = some (.int .i64 cu)) := fun W hW => by
    obtain ⟨b, o, e, h1, h2⟩ := (hH.below hW) 0 (by simp)
    cases e
    exact ⟨by simpa using h1, by simpa using h2⟩
  rw [hp] at D1
  clear d3 d4 d5 d6 d8 d9 hS hI hwas hord hk eA eB fch fpa fS tS tA hlB hBA wfB hB wfS wfA hcS hpA hcA hp hH
  have hKb : (nd A pa).ks.length ≤ 1000 := KA.out pa (by omega)
  clear KA
  generalize hKL : (nd A pa).ks.length = KL at *
  have HKL : Hid _ := hKL
  generalize hOL : (orderF S S.length ch).length = OL at *
  have HOL : Hid _ := hOL
  clear hKL hOL
  generalize hn : S.length = n at *
  have HN : Hid _ := hn
  clear hn hl
  go_enter Try.func7, Try.ntmps7
  go_wp2_with fail
  refine (HI.out _ (three_below _ _ _ _)).mono ?_
  rintro e w1 ⟨g, rfl, hb1, hA1⟩
  simp only [World.size_alloc] at hb1
  have HB1 : Hid (Below (w.heap.size + 1 + 1 + 1) (((w.alloc (.cells #[.slice a n c] 24)).alloc (.cells #[.int .i64 (pa : Int), .int .i64 pu] 26)).alloc (.cells #[.int .i64 (ch : Int), .int .i64 cu] 26)) w1) := hb1
  have HA1 : Hid (NdsAt w1 (some ⟨g, 0, none⟩) A) := hA1
  obtain ⟨l0, l1, l2, l3, l4, l5, q0, q1, q2⟩ := keeps_low hb1
  clear hb1 hA1 l5
  go_wp2_with fail
  refine (G _).mono ?_
  rintro e w2 ⟨rfl, hb2⟩
  simp only [World.size_alloc] at hb2
  have ca2 := store_low hb2
  have hs2 := hb2.size
  simp only [World.size_alloc] at hs2
  have hb12 : Below w1.heap.size w1 w2 := ((Below.refl _ _).alloc (Nat.le_refl _) _).trans (hb2.mono (by omega))
  have HB2 : Hid (Below (w.heap.size + 1 + 1 + 1) (((w.alloc (.cells #[.slice a n c] 24)).alloc (.cells #[.int .i64 (pa : Int), .int .i64 pu] 26)).alloc (.cells #[.int .i64 (ch : Int), .int .i64 cu] 26)) w2) := HB1.out.trans (hb12.mono (by omega))
  have HA2 : Hid (NdsAt w2 (some ⟨g, 0, none⟩) A) := HA1.out.below hb12
  clear l0 l1 l2 l3 l4
  obtain ⟨l0, l1, l2, l3, l4, l5, r0, r1, r2⟩ := keeps_low HB2.out
  clear hb2 hb12 l5
  go_wp2_with fail
  refine (D1.out _ _ HA2.out).mono ?_
  rintro e w3 ⟨g1, rfl, hb3, _⟩
  have hs3 := hb3.size
  have ca3 := later hb3 ca2
  have HB3 : Hid (Below (w.heap.size + 1 + 1 + 1) (((w.alloc (.cells #[.slice a n c] 24)).alloc (.cells #[.int .i64 (pa : Int), .int .i64 pu] 26)).alloc (.cells #[.int .i64 (ch : Int), .int .i64 cu] 26)) w3) := HB2.out.trans (hb3.mono (by omega))
  have HA3 : Hid (NdsAt w3 (some ⟨g, 0, none⟩) A) := HA2.out.below hb3
  clear hb3 ca2
  clear l0 l1 l2 l3 l4 r0 r1 r2
  obtain ⟨l0, l1, l2, l3, l4, l5, r0, r1, r2⟩ := keeps_low HB3.out
  clear l5
  generalize (nd A ch).ks.length = CL at *
  generalize (nd A ch).u = xu at *
  generalize (nd A ch).n = xn at *
  generalize (nd A ch).t = xt at *
  generalize (nd A ch).m = xm at *
  generalize (nd A ch).h = xh at *
  generalize (nd A ch).c = xc at *
  have hca3 := World.block_lt_of_cell? _ _ ca3
  go_wp2_with fail
  refine (D2.out _ _ (HA3.out.below ((Below.refl _ _).alloc (Nat.le_refl _) _))).mono ?_
  rintro e w4 ⟨g2, rfl, hb4, hk4⟩
  simp only [World.size_alloc] at hb4
  have hs4 := hb4.size
  simp only [World.size_alloc] at hs4
  have hb34 : Below w3.heap.size w3 w4 := ((Below.refl _ _).alloc (Nat.le_refl _) _).trans (hb4.mono (by omega))
  have n4 : w4.cell? ⟨w3.heap.size, 4, none⟩ = some (.int .i64 (pa : Int)) := (hb4.cell (by simp)).trans (by go_simp)
  have ca4 := later hb34 ca3
  have HK4 : Hid (IntsAt w4 (some ⟨g2, 0, none⟩) (nd A pa).ks) := hk4
  have HB4 : Hid (Below (w.heap.size + 1 + 1 + 1) (((w.alloc (.cells #[.slice a n c] 24)).alloc (.cells #[.int .i64 (pa : Int), .int .i64 pu] 26)).alloc (.cells #[.int .i64 (ch : Int), .int .i64 cu] 26)) w4) := HB3.out.trans (hb34.mono (by omega))
  have HA4 : Hid (NdsAt w4 (some ⟨g, 0, none⟩) A) := HA3.out.below hb34
  clear hb4 hb34 ca3 hk4
  clear l0 l1 l2 l3 l4 r0 r1 r2
  obtain ⟨l0, l1, l2, l3, l4, l5, r0, r1, r2⟩ := keeps_low HB4.out
  clear l5
  generalize (nd A pa).u = yu at *
  generalize (nd A pa).n = yn at *
  generalize (nd A pa).t = yt at *
  generalize (nd A pa).m = ym at *
  generalize (nd A pa).p = yp at *
  generalize (nd A pa).h = yh at *
  generalize (nd A pa).c = yc at *
  have hca4 := World.block_lt_of_cell? _ _ ca4
  go_wp2_with fail
  refine (D3.out _ _ (HA4.out.below ((Below.refl _ _).alloc (Nat.le_refl _) _))).mono ?_
  rintro e w5 ⟨rfl, hb5⟩
  simp only [World.size_alloc] at hb5
  have hs5 := hb5.size
  simp only [World.size_alloc] at hs5
  have hb45 : Below w4.heap.size w4 w5 := ((Below.refl _ _).alloc (Nat.le_refl _) _).trans (hb5.mono (by omega))
  have n5 := later hb45 n4
  have p5 : w5.cell? ⟨w4.heap.size, 5, none⟩ = some (.slice (some ⟨g2, 0, none⟩) KL KL) := (hb5.cell (by simp)).trans (by go_simp)
  have ca5 := later hb45 ca4
  have HK5 : Hid (IntsAt w5 (some ⟨g2, 0, none⟩) (nd A pa).ks) := HK4.out.below hb45
  have HB5 : Hid (Below (w.heap.size + 1 + 1 + 1) (((w.alloc (.cells #[.slice a n c] 24)).alloc (.cells #[.int .i64 (pa : Int), .int .i64 pu] 26)).alloc (.cells #[.int .i64 (ch : Int), .int .i64 cu] 26)) w5) := HB4.out.trans (hb45.mono (by omega))
  have HA5 : Hid (NdsAt w5 (some ⟨g, 0, none⟩) A) := HA4.out.below hb45
  clear hb5 hb45 ca4 n4
  clear l0 l1 l2 l3 l4 r0 r1 r2
  obtain ⟨l0, l1, l2, l3, l4, l5, r0, r1, r2⟩ := keeps_low HB5.out
  clear l5
  have hca5 := World.block_lt_of_cell? _ _ ca5
  have hn5 := World.block_lt_of_cell? _ _ n5
  have hp5 := World.block_lt_of_cell? _ _ p5
  go_wp2_with fail
  refine (D4.out _ _ HK5.out).mono ?_
  rintro e w6 ⟨rfl, hw6⟩
  subst hw6
  go_wp2_with fail
  have kz : decide ((k : Int) < 0) = false := decide_eq_false (by omega)
  obtain ⟨x0, x1⟩ := HC.out _ ((three_below _ _ _ _).trans (HB5.out.mono (by omega)))
  go_big_quiet (fail)
  obtain ⟨W7, hW7⟩ : ∃ W, W = w6.drewN nq := ⟨_, rfl⟩
  rw [← hW7]
  have hb67 : Below w6.heap.size w6 W7 := by rw [hW7]; exact Below.drewNs (Below.refl _ _) _
  clear hW7
  have ca7 := later hb67 ca5
  have HB7 : Hid (Below (w.heap.size + 1 + 1 + 1) (((w.alloc (.cells #[.slice a n c] 24)).alloc (.cells #[.int .i64 (pa : Int), .int .i64 pu] 26)).alloc (.cells #[.int .i64 (ch : Int), .int .i64 cu] 26)) W7) := HB5.out.trans (hb67.mono (by omega))
  have HA7 : Hid (NdsAt W7 (some ⟨g, 0, none⟩) A) := HA5.out.below hb67
  clear l0 l1 l2 l3 l4 r0 r1 r2 hb67 ca5 n5 p5 hca5 hn5 hp5
  obtain ⟨l0, l1, l2, l3, l4, l5, r0, r1, r2⟩ := keeps_low HB7.out
  clear l5
  go_wp2_with fail
  refine (D5.out _ (HS.out.below ((three_below _ _ _ _).trans (HB7.out.mono (by omega))))).mono ?_
  rintro e w8 ⟨sa, capa, rfl, hb8, ho8, _, _⟩
  have hs8 := hb8.size
  have ca8 := later hb8 ca7
  have HO8 : Hid (IntsAt w8 sa (orderF S n ch)) := ho8
  have HB8 : Hid (Below (w.heap.size + 1 + 1 + 1) (((w.alloc (.cells #[.slice a n c] 24)).alloc (.cells #[.int .i64 (pa : Int), .int .i64 pu] 26)).alloc (.cells #[.int .i64 (ch : Int), .int .i64 cu] 26)) w8) := HB7.out.trans (hb8.mono (by omega))
  have HA8 : Hid (NdsAt w8 (some ⟨g, 0, none⟩) A) := HA7.out.below hb8
  clear l0 l1 l2 l3 l4 r0 r1 r2 hb8 ca7 ho8
  obtain ⟨l0, l1, l2, l3, l4, l5, r0, r1, r2⟩ := keeps_low HB8.out
  clear l5
  go_wp2_with fail
  refine (D6.out _ _ HA8.out).mono ?_
  rintro e w9 ⟨sb, capb, rfl, hb9, ho9, _, _⟩
  have hs9 := hb9.size
  have ca9 := later hb9 ca8
  have HO9 : Hid (IntsAt w9 sb (orderF S n ch)) := ho9
  have HP9 : Hid (IntsAt w9 sa (orderF S n ch)) := HO8.out.below hb9
  have HB9 : Hid (Below (w.heap.size + 1 + 1 + 1) (((w.alloc (.cells #[.slice a n c] 24)).alloc (.cells #[.int .i64 (pa : Int), .int .i64 pu] 26)).alloc (.cells #[.int .i64 (ch : Int), .int .i64 cu] 26)) w9) := HB8.out.trans (hb9.mono (by omega))
  have HA9 : Hid (NdsAt w9 (some ⟨g, 0, none⟩) A) := HA8.out.below hb9
  clear l0 l1 l2 l3 l4 r0 r1 r2 hb9 ca8 ho9
  obtain ⟨l0, l1, l2, l3, l4, l5, r0, r1, r2⟩ := keeps_low HB9.out
  clear l5
  go_wp2_with fail
  refine (D7.out _ _ HA9.out).mono ?_
  rintro e w10 ⟨gb, rfl, hb10, _, hnB⟩
  have hs10 := hb10.size
  have hNB : NdsAt w10 (some ⟨gb, 0, none⟩) (leaveS A pa ch) := hnB w10 (fun _ _ => rfl)
  have HNB : Hid (NdsAt w10 (some ⟨gb, 0, none⟩) (leaveS A pa ch)) := hNB
  have HO10 : Hid (IntsAt w10 sb (orderF S n ch)) := HO9.out.below hb10
  have HP10 : Hid (IntsAt w10 sa (orderF S n ch)) := HP9.out.below hb10
  have HB10 : Hid (Below (w.heap.size + 1 + 1 + 1) (((w.alloc (.cells #[.slice a n c] 24)).alloc (.cells #[.int .i64 (pa : Int), .int .i64 pu] 26)).alloc (.cells #[.int .i64 (ch : Int), .int .i64 cu] 26)) w10) := HB9.out.trans (hb10.mono (by omega))
  clear l0 l1 l2 l3 l4 r0 r1 r2 hb10 ca9 hnB hNB
  obtain ⟨l0, l1, l2, l3, l4, l5, r0, r1, r2⟩ := keeps_low HB10.out
  clear l5
  have X10 : Hid (∀ o1, Below w10.heap.size w10 (w10.alloc o1)) := fun o1 => (Below.refl _ _).alloc (Nat.le_refl _) o1
  go_wp2_with (first | (go_at_call 32; refine (D8.out _ _ _ _ _ (HP10.out.below (X10.out _)) (HO10.out.below (X10.out _))).mono ?_; rintro e w11 ⟨rfl, hb11⟩; simp only [World.size_alloc] at hb11; have cb11 := store_low hb11; have HB11 : Hid (Below w10.heap.size w10 w11) := (X10.out _).trans (hb11.mono (by omega)); have hcb := World.block_lt_of_cell? _ _ cb11; clear hb11) | (go_at_call 18; refine (D9.out _ _ (HNB.out.below HB11.out)).mono ?_; rintro e w12 ⟨rfl, hb12⟩; have cb12 := later hb12 cb11; have HB12 : Hid (Below w10.heap.size w10 w12) := HB11.out.trans (hb12.mono HB11.out.size); have H12 : Hid (Below (w.heap.size + 1 + 1 + 1) (((w.alloc (.cells #[.slice a n c] 24)).alloc (.cells #[.int .i64 (pa : Int), .int .i64 pu] 26)).alloc (.cells #[.int .i64 (ch : Int), .int .i64 cu] 26)) w12) := HB10.out.trans (HB12.out.mono (by omega)); obtain ⟨m0, m1, m2, m3, m4, m5, t0, t1, t2⟩ := keeps_low H12.out; clear m5 hb12))
  refine (D10.out _ (HS.out.below ((three_below _ _ _ _).trans (H12.out.mono (by omega))))).mono ?_
  rintro e w13 ⟨g3, rfl, hb13, _⟩
  have hs13 := hb13.size
  have cb13 := later hb13 cb12
  have HB13 : Hid (Below w10.heap.size w10 w13) := HB12.out.trans (hb13.mono HB12.out.size)
  have H13 : Hid (Below (w.heap.size + 1 + 1 + 1) (((w.alloc (.cells #[.slice a n c] 24)).alloc (.cells #[.int .i64 (pa : Int), .int .i64 pu] 26)).alloc (.cells #[.int .i64 (ch : Int), .int .i64 cu] 26)) w13) := HB10.out.trans (HB13.out.mono (by omega))
  clear l0 l1 l2 l3 l4 r0 r1 r2 m0 m1 m2 m3 m4 t0 t1 t2 hb13 cb12 cb11
  obtain ⟨l0, l1, l2, l3, l4, l5, r0, r1, r2⟩ := keeps_low H13.out
  have hcb13 := World.block_lt_of_cell? _ _ cb13
  have X13 : Hid (∀ o1, Below w13.heap.size w13 (w13.alloc o1)) := fun o1 => (Below.refl _ _).alloc (Nat.le_refl _) o1
  have HE : Hid (Below w.heap.size w w13) := l5
  clear l5
  by_cases hpp : 0 ≤ (nd S ch).p
  · generalize (nd S ch).p = wp at *
    go_wp2
    go_ret
    exact ⟨rfl, HE.out.alloc HE.out.size _⟩
  · have hBS : leaveS A pa ch = S := by
      rcases HW.out with h | h
      · exact absurd h hpp
      · exact h
    have HBS : Hid _ := hBS
    have hpd : decide (0 ≤ (nd S ch).p) = false := decide_eq_false hpp
    clear hBS HW
    generalize (nd S ch).p = wp at *
    go_wp2_with (go_at_call 19; refine (D11.out _ _ (HNB.out.below (HB13.out.trans ((X13.out _).mono HB13.out.size))) (HS.out.below (HE.out.trans ((X13.out _).mono HE.out.size)))).mono ?_; rintro e w14 ⟨r, rfl, hb14, hr⟩; have hrt := hr.2 HBS.out; subst hrt; have HF : Hid (Below w.heap.size w w14) := (HE.out.trans ((X13.out _).mono HE.out.size)).trans (hb14.mono (by simp; have := HE.out.size; omega)); clear hr hb14)
    go_ret
    exact ⟨rfl, HF.out⟩
end Go.Proofs.Ytjlapfgghljidaa

namespace Go.Proofs.Ytjlapfgghljidaa
open Go.ChangeShapes Go.WideShapes Go.ChangeAt Go.RowKit

set_option maxRecDepth 100000 in
set_option maxHeartbeats 1000000 in
theorem keeps_err (G : GrownOk) (a : Option Addr) (c n : Nat) (P pu C cu : Int) (ha : Option Addr) (m hc : Nat) (E : Int) (hE : E ≠ 0) (w : World)
    (hI : ∀ W, Below w.heap.size w W → Calls Try.prog 25 #[.agg #[.slice a n c], .agg #[.int .i64 P, .int .i64 pu], .agg #[.int .i64 C, .int .i64 cu], .slice ha m hc] W fun e w' => e = .returned (.tuple #[.agg #[.slice none 0 0], .int .i64 E]) ∧ Below W.heap.size W w') :
    Calls Try.prog 7 #[.agg #[.slice a n c], .agg #[.int .i64 P, .int .i64 pu], .agg #[.int .i64 C, .int .i64 cu], .slice ha m hc] w fun e w' => e = .returned (.bool true) ∧ Below w.heap.size w w' := by
  have HI : Hid _ := hI
  have hz : (E == 0) = false := by simp [hE]
  clear hI
  go_enter Try.func7, Try.ntmps7
  go_wp2_with fail
  refine (HI.out _ (three_below _ _ _ _)).mono ?_
  rintro e w1 ⟨rfl, hb1⟩
  simp only [World.size_alloc] at hb1
  have HB1 : Hid (Below w.heap.size w w1) := (three_below _ _ _ _).trans (hb1.mono (by omega))
  clear hb1
  go_wp2_with fail
  refine (G _).mono ?_
  rintro e w2 ⟨rfl, hb2⟩
  have HB2 : Hid (Below w.heap.size w w2) := (HB1.out.alloc HB1.out.size _).trans (hb2.mono (by simp; have := HB1.out.size; omega))
  clear hb2
  go_wp2_with fail
  refine (G _).mono ?_
  rintro e w3 ⟨rfl, hb3⟩
  have HB3 : Hid (Below w.heap.size w w3) := HB2.out.trans (hb3.mono HB2.out.size)
  clear hb3
  go_wp2
  go_ret
  exact ⟨rfl, HB3.out⟩

theorem keeps_any (G : GrownOk) (a : Option Addr) (c : Nat) (S : List Nd) (P pu C cu : Int) (ha : Option Addr) (hc : Nat) (hs : List (Int × Int)) (w : World) (hN : S.length ≤ 9223372036854775807) (hB : Big S) (hS : NdsAt w a S) (hL : hs.length ≤ 9223372036854775807) (hH : HandsAt w ha hs) :
    Calls Try.prog 7 #[.agg #[.slice a S.length c], .agg #[.int .i64 P, .int .i64 pu], .agg #[.int .i64 C, .int .i64 cu], .slice ha hs.length hc] w fun e w' => e = .returned (.bool true) ∧ Below w.heap.size w w' := by
  by_cases hm : 1 < hs.length
  · exact keeps_err G a c S.length P pu C cu ha hs.length hc 3 (by omega) w (fun W _ => insert_many a c S.length P C pu cu ha hc hs.length W hm)
  · match hs, hm with
    | [], _ =>
      by_cases hE : tcheckE S [(P, pu), (C, cu)] = 0
      · obtain ⟨wf, hx⟩ := tcheck_wf hE
        obtain ⟨pa, e1, hpa, hpu, hpn⟩ := hx (P, pu) (by simp)
        obtain ⟨ch, e2, hch, hcu, hcn⟩ := hx (C, cu) (by simp)
        dsimp only at e1 e2 hpn hcn
        subst e1
        subst e2
        by_cases hf : fitsB S ch pa = true
        · have pt : Puts S pa ch := ⟨wf, hpa, hch, hpu, hcu, hf⟩
          obtain ⟨f1, f2, f3⟩ := fits_parts hf
          have hl := leaveG_length S ch
          have hK : ∀ i, i < S.length → (nd S i).ks.length ≤ 1000 := fun i hi => by have := wf.kids_small hi; omega
          have hp0 : (nd S ch).p = -1 ∨ ∃ p0 : Nat, p0 < S.length ∧ p0 ≠ ch ∧ (nd S ch).p = p0 := by
            by_cases e : (nd S ch).p = -1
            · exact Or.inl e
            · obtain ⟨p0, e0, g1, g2, _⟩ := wf.parent_place hch e
              exact Or.inr ⟨p0, g1, g2, e0⟩
          obtain ⟨at', hat⟩ : ∃ at', at' = (nd (leaveG S ch) pa).ks.length := ⟨_, rfl⟩
          have hlA : (enterS (leaveG S ch) pa ch at').length = S.length := by rw [enterS_length, hl]
          obtain ⟨k1, k2⟩ := pt.kids at'
          refine keeps0 G a c S (enterS (leaveG S ch) pa ch at') pa ch pu cu ha hc w hS hB (fun W hW => (insert0_ok a c S pa ch pu cu ha hc at' W wf.small hB (hS.below hW) hE hch hpa f2 hf hp0 (by rw [hat]; rfl) (by omega) hK).mono ?_) hlA wf (pt.insert at') hpa hch ⟨hcu, hcn⟩ ?_ ?_ ?_ at' ?_ ?_ ?_ (pt.order at') ?_
          · rintro e w' ⟨g, he, hb, _, hn⟩
            exact ⟨g, he, hb, hn w' (fun _ _ => rfl)⟩
          · rw [(enter_u _ _ _ _ _).1, (enter_u _ _ _ _ _).2.1, (leaveG_u _ _ _).1, (leaveG_u _ _ _).2.1]; exact ⟨hpu, hpn⟩
          · rw [(enter_u _ _ _ _ _).1, (enter_u _ _ _ _ _).2.1, (leaveG_u _ _ _).1, (leaveG_u _ _ _).2.1]; exact ⟨hcu, hcn⟩
          · rw [enter_p _ (by rw [hl]; exact hch), if_pos rfl]
          · rw [k1]; exact idx_ins (by omega) k2
          · rw [k1, ins_length _ _ _ (by omega)]; omega
          · rw [k1, ins_length _ _ _ (by omega)]; omega
          · rcases hp0 with h | ⟨p0, _, _, h⟩
            · exact Or.inr (pt.back at' h)
            · exact Or.inl (by omega)
        · exact keeps_err G a c S.length pa pu ch cu ha 0 hc 6 (by omega) w (fun W hW => insert0_bad a c S pa ch pu cu ha hc W wf.small hB (hS.below hW) hE hch (by simpa using hf))
      · exact keeps_err G a c S.length P pu C cu ha 0 hc _ hE w (fun W hW => insert0_err a c S P C pu cu ha hc _ W hN hB (hS.below hW) rfl hE)
    | _ :: _ :: _, h => exact absurd (by simp) h
    | [(Q, qu)], _ =>
      obtain ⟨hb0, ho0, rfl, _⟩ := hH 0 (by simp)
      by_cases hE : tcheckE S [(P, pu), (C, cu), (Q, qu)] = 0
      · obtain ⟨wf, hx⟩ := tcheck_wf hE
        obtain ⟨pa, e1, hpa, hpu, hpn⟩ := hx (P, pu) (by simp)
        obtain ⟨ch, e2, hch, hcu, hcn⟩ := hx (C, cu) (by simp)
        obtain ⟨q, e3, hq, hqu, hqn⟩ := hx (Q, qu) (by simp)
        dsimp only at e1 e2 e3 hpn hcn hqn
        subst e1
        subst e2
        subst e3
        by_cases hf : fitsB S ch pa = true
        · have pt : Puts S pa ch := ⟨wf, hpa, hch, hpu, hcu, hf⟩
          obtain ⟨f1, f2, f3⟩ := fits_parts hf
          have hl := leaveG_length S ch
          have hK : ∀ i, i < S.length → (nd S i).ks.length ≤ 1000 := fun i hi => by have := wf.kids_small hi; omega
          by_cases hqp : (nd S q).p = pa
          · by_cases hqc : q = ch
            · subst hqc
              have hcq : cu = qu := by omega
              subst hcq
              obtain ⟨_, hin⟩ := wf.in_kids hq hqp
              obtain ⟨k, hk1, hk2, _⟩ := idx_lt hin
              refine keepsS G a c S S pa q pu cu hb0 ho0 hc w hS hB (fun W hW => (insert1_self a c S pa q pu cu hb0 ho0 hc q cu W wf.small hB (hS.below hW) (hH.below hW) hE hq hq hf hqp rfl hK).mono ?_) rfl wf wf hpa hq ⟨hcu, hcn⟩ ⟨hpu, hpn⟩ ⟨hcu, hcn⟩ hqp k hk1 hH rfl (Or.inl (by omega))
              rintro e w' ⟨g, he, hb, _, hn⟩
              exact ⟨g, he, hb, hn w' (fun _ _ => rfl)⟩
            · have hp0 : (nd S ch).p = -1 ∨ ∃ p0 : Nat, p0 < S.length ∧ p0 ≠ ch ∧ (nd S ch).p = p0 := by
                by_cases e : (nd S ch).p = -1
                · exact Or.inl e
                · obtain ⟨p0, e0, g1, g2, _⟩ := wf.parent_place hch e
                  exact Or.inr ⟨p0, g1, g2, e0⟩
              obtain ⟨at', hat, hatL, hatq⟩ := pt.ahead hq hqp hqc
              have hlA : (enterS (leaveG S ch) pa ch at').length = S.length := by rw [enterS_length, hl]
              obtain ⟨k1, k2⟩ := pt.kids at'
              refine keepsA G a c S (enterS (leaveG S ch) pa ch at') pa ch pu cu hb0 ho0 hc q qu w hS hB (fun W hW => (insert1_ok a c S pa ch pu cu hb0 ho0 hc q qu at' W wf.small hB (hS.below hW) (hH.below hW) hE hch hpa hq f2 hf hp0 hqp (fun e => hqc (by have := congrArg Prod.fst e; simp at this; omega)) hat (by omega) hK).mono ?_) hlA wf (pt.insert at') hpa hch ⟨hcu, hcn⟩ ?_ ?_ ?_ at' ?_ hH (by omega) ?_ ?_ (pt.order at') ?_
              · rintro e w' ⟨g, he, hb, _, hn⟩
                exact ⟨g, he, hb, hn w' (fun _ _ => rfl)⟩
              · rw [(enter_u _ _ _ _ _).1, (enter_u _ _ _ _ _).2.1, (leaveG_u _ _ _).1, (leaveG_u _ _ _).2.1]; exact ⟨hpu, hpn⟩
              · rw [(enter_u _ _ _ _ _).1, (enter_u _ _ _ _ _).2.1, (leaveG_u _ _ _).1, (leaveG_u _ _ _).2.1]; exact ⟨hcu, hcn⟩
              · rw [enter_p _ (by rw [hl]; exact hch), if_pos rfl]
              · rw [k1]; exact idx_ins (by omega) k2
              · rw [k1, ins_length _ _ _ (by omega)]; omega
              · rw [k1, ins_high _ _ _ _ (by omega) (by omega)]
                exact hatq
              · rcases hp0 with h | ⟨p0, _, _, h⟩
                · exact Or.inr (pt.back at' h)
                · exact Or.inl (by omega)
          · exact keeps_err G a c S.length pa pu ch cu _ 1 hc 6 (by omega) w (fun W hW => insert1_away a c S pa ch pu cu hb0 ho0 hc q qu W wf.small hB (hS.below hW) (hH.below hW) hE hch hq hf hqp)
        · exact keeps_err G a c S.length pa pu ch cu _ 1 hc 6 (by omega) w (fun W hW => insert1_bad a c S pa ch pu cu hb0 ho0 hc q qu W wf.small hB (hS.below hW) (hH.below hW) hE hch (by simpa using hf))
      · exact keeps_err G a c S.length P pu C cu _ 1 hc _ hE w (fun W hW => insert1_err a c S P C pu cu hb0 ho0 hc Q qu _ W hN hB (hS.below hW) (hH.below hW) rfl hE)
end Go.Proofs.Ytjlapfgghljidaa
