/-
  The contract of tree.Remove, over any store.
-/
import Derived.Test.YtgjfmepbphfjoaaGreatUUbWbWdSr
import Derived.Test.YtgjfmepbphfjoaaGreatULfXb
import Derived.Test.YtgjfmepbphfjoaaGreatUTmTnZpLb
import Derived.Deep.RegionHeld3
namespace Go.Proofs.YtgjfmepbphfjoaaGreat
open Go.RowKit

theorem rem_low {w w1 : World} {a : Option Addr} {n c : Nat} {p pu : Int} (hb : Below (w.heap.size + 1 + 1 + 1) (((w.alloc (.cells #[.slice a n c] 24)).alloc (.cells #[.int .i64 p, .int .i64 pu] 39)).alloc (.cells #[.slice none 0 0] 24)) w1) :
    w1.cell? ⟨w.heap.size, 0, none⟩ = some (.slice a n c) ∧ w1.cell? ⟨w.heap.size + 1, 0, none⟩ = some (.int .i64 p) ∧ w1.cell? ⟨w.heap.size + 1, 1, none⟩ = some (.int .i64 pu) ∧ w1.cell? ⟨w.heap.size + 1 + 1, 0, none⟩ = some (.slice none 0 0) ∧ (∀ o, w1.frozen? ⟨w.heap.size + 1 + 1, o, none⟩ = false) := by
  refine ⟨?_, ?_, ?_, ?_, fun o => ?_⟩
  all_goals first | exact (hb.cell (by first | (simp; done) | (simp; omega))).trans (by go_simp) | exact (hb.frozen (by first | (simp; done) | (simp; omega))).trans (by go_simp)

set_option maxHeartbeats 1000000 in
theorem remove_err (a : Option Addr) (c : Nat) (S : List Nd) (p u E : Int) (w : World) (hN : S.length ≤ 9223372036854775807) (hB : Big S) (hS : NdsAt w a S) (hE : tcheckE S [(p, u)] = E) (hE0 : E ≠ 0) :
    Calls Tryz.prog 58 #[.agg #[.slice a S.length c], .agg #[.int .i64 p, .int .i64 u]] w fun e w' => e = .returned (.tuple #[.agg #[.slice none 0 0], .int .i64 E]) ∧ Below w.heap.size w w' := by
  have d1 := fun (W : World) (ha : Option Addr) (hW : NdsAt W a S) (hH : HandsAt W ha [(p, u)]) => tcheck_any a c S ha 1 [(p, u)] W hN hB hW (by simp) hH
  rw [hE] at d1
  have D1 : Hid _ := d1
  have HS : Hid (NdsAt w a S) := hS
  clear hS d1 hE hB
  have hz : (E == 0) = false := by simp [hE0]
  generalize S.length = n at *
  go_enter Tryz.func58, Tryz.ntmps58
  go_wp2_with (go_at_call 105; refine (D1.out _ _ (HS.out.below (four_below _ _ _ _ _)) (hands_one _ _ _ _ (by go_simp) (by go_simp))).mono ?_; rintro e w1 ⟨rfl, hb1⟩; simp only [World.size_alloc] at hb1; obtain ⟨l0, l1, l2, l3, l4⟩ := rem_low (((Below.refl _ _).alloc (by simp) _).trans (hb1.mono (by omega))); have HB : Hid _ := hb1; clear hb1)
  refine bodyPost_ret (v := .tuple #[.agg #[.slice none 0 0], .int .i64 E]) (by simp [results, Tryz.results58, go_sem, l3]) rfl ⟨rfl, ?_⟩
  exact ((four_below _ _ _ _ _).trans (HB.out.mono (by omega))).setCell (by simp; omega) _

set_option maxHeartbeats 1000000 in
theorem remove_none (a : Option Addr) (c : Nat) (S : List Nd) (ch : Nat) (u : Int) (w : World) (hN : S.length ≤ 9223372036854775807) (hB : Big S) (hS : NdsAt w a S) (hE : tcheckE S [((ch : Int), u)] = 0) (hch : ch < S.length) (hp : (nd S ch).p = -1) :
    Calls Tryz.prog 58 #[.agg #[.slice a S.length c], .agg #[.int .i64 ch, .int .i64 u]] w fun e w' => e = .returned (.tuple #[.agg #[.slice none 0 0], .int .i64 6]) ∧ Below w.heap.size w w' := by
  have d1 := fun (W : World) (ha : Option Addr) (hW : NdsAt W a S) (hH : HandsAt W ha [((ch : Int), u)]) => tcheck_any a c S ha 1 [((ch : Int), u)] W hN hB hW (by simp) hH
  rw [hE] at d1
  have D1 : Hid _ := d1
  have HS : Hid (NdsAt w a S) := hS
  have hch2 : (ch : Int) < (S.length : Int) := by omega
  have QP : Hid (∀ W, NdsAt W a S → ∃ b o, a = some ⟨b, o, none⟩ ∧ W.cell? ⟨b, o + ch * 8 + 4, none⟩ = some (.int .i64 (-1))) := fun W hW => by
    obtain ⟨b, o, e, _, _, _, _, c4, _⟩ := hW ch hch
    exact ⟨b, o, e, by rw [c4, hp]⟩
  clear hS d1 hE hB hp
  generalize S.length = n at *
  go_enter Tryz.func58, Tryz.ntmps58
  go_wp2_with (go_at_call 105; refine (D1.out _ _ (HS.out.below (four_below _ _ _ _ _)) (hands_one _ _ _ _ (by go_simp) (by go_simp))).mono ?_; rintro e w1 ⟨rfl, hb1⟩; simp only [World.size_alloc] at hb1; obtain ⟨l0, l1, l2, l3, l4⟩ := rem_low (((Below.refl _ _).alloc (by simp) _).trans (hb1.mono (by omega))); have hbw := (four_below _ _ _ _ _).trans (hb1.mono (by omega)); obtain ⟨b, o, rfl, qp⟩ := QP.out _ (HS.out.below hbw); have HB : Hid _ := hbw; have hq := World.block_lt_of_cell? _ _ qp; clear hb1 hbw)
  refine bodyPost_ret (v := .tuple #[.agg #[.slice none 0 0], .int .i64 6]) (by simp [results, Tryz.results58, go_sem, l3]) rfl ⟨rfl, ?_⟩
  exact HB.out.setCell (by simp; omega) _

set_option maxHeartbeats 2000000 in
theorem remove_ok (a : Option Addr) (c : Nat) (S : List Nd) (ch pa : Nat) (u : Int) (w : World) (hN : S.length ≤ 24) (hB : Big S) (hS : NdsAt w a S) (hE : tcheckE S [((ch : Int), u)] = 0) (hch : ch < S.length) (hpa : pa < S.length) (hne : pa ≠ ch) (hp : (nd S ch).p = pa) (hK : ∀ i, i < S.length → (nd S i).ks.length ≤ 1000) :
    Calls Tryz.prog 58 #[.agg #[.slice a S.length c], .agg #[.int .i64 ch, .int .i64 u]] w fun e w' => ∃ g, e = .returned (.tuple #[.agg #[.slice (some ⟨g, 0, none⟩) S.length S.length], .int .i64 0]) ∧ Below w.heap.size w w' ∧ w.heap.size ≤ g ∧ ∀ w3 : World, (∀ b, g ≤ b → w3.heap[b]? = w'.heap[b]?) → NdsAt w3 (some ⟨g, 0, none⟩) (leaveS S pa ch) := by
  have d1 := fun (W : World) (ha : Option Addr) (hW : NdsAt W a S) (hH : HandsAt W ha [((ch : Int), u)]) => tcheck_any a c S ha 1 [((ch : Int), u)] W (by omega) hB hW (by simp) hH
  rw [hE] at d1
  have D1 : Hid _ := d1
  have HS : Hid (NdsAt w a S) := hS
  have hch2 : (ch : Int) < (S.length : Int) := by omega
  have QP : Hid (∀ W, NdsAt W a S → ∃ b o, a = some ⟨b, o, none⟩ ∧ W.cell? ⟨b, o + ch * 8 + 4, none⟩ = some (.int .i64 (pa : Int))) := fun W hW => by
    obtain ⟨b, o, e, _, _, _, _, c4, _⟩ := hW ch hch
    exact ⟨b, o, e, by rw [c4, hp]⟩
  have dc := fun (W : World) (hW : NdsAt W a S) => copy_any a c S W hN hK hW
  have DC : Hid _ := dc
  have dl := fun (B g c : Nat) (kb kc : Nat → Nat) (W : World) (hO : Own W B g S kb kc S.length) => leave_any B g c S kb kc pa ch W hO hpa hch hne hp
  have DL : Hid _ := dl
  have OC : Hid (∀ (wr : World) (B g : Nat) (kb kc : Nat → Nat), Own wr B g S kb kc S.length → B ≤ g ∧ g < wr.heap.size ∧ g < kb pa ∧ kb pa < wr.heap.size) := fun wr B g kb kc h => by
    obtain ⟨hB, F, hF, hNd, hg, _⟩ := h
    exact ⟨hB, hF.lt, hg pa hpa, (hNd pa hpa).row⟩
  clear hS d1 hE hB hp dc dl hK
  generalize hn : S.length = n at *
  have HN : Hid _ := hn
  clear hn
  go_enter Tryz.func58, Tryz.ntmps58
  go_wp2_with (go_at_call 105; refine (D1.out _ _ (HS.out.below (four_below _ _ _ _ _)) (hands_one _ _ _ _ (by go_simp) (by go_simp))).mono ?_; rintro e w1 ⟨rfl, hb1⟩; simp only [World.size_alloc] at hb1; have HB1 : Hid (Below (w.heap.size + 1 + 1 + 1) (((w.alloc (.cells #[.slice a n c] 24)).alloc (.cells #[.int .i64 (ch : Int), .int .i64 u] 39)).alloc (.cells #[.slice none 0 0] 24)) w1) := ((Below.refl _ _).alloc (by simp) _).trans (hb1.mono (by omega)); obtain ⟨l0, l1, l2, l3, l4⟩ := rem_low HB1.out; have hbw := (four_below _ _ _ _ _).trans (hb1.mono (by omega)); obtain ⟨b, o, ea, qp⟩ := QP.out _ (HS.out.below hbw); have HB : Hid _ := hbw; have hq := World.block_lt_of_cell? _ _ qp; have hl0 := World.block_lt_of_cell? _ _ l0; have hl1 := World.block_lt_of_cell? _ _ l1; have hl3 := World.block_lt_of_cell? _ _ l3; subst ea; clear hb1 hbw)
  refine (DC.out _ (HS.out.below HB.out)).mono ?_
  rintro e w7 ⟨g, kb, kc, rfl, hb7, hO7⟩
  obtain ⟨hgB, hgl, hgk, hkl⟩ := OC.out _ _ _ _ _ hO7
  have hs7 := hb7.size
  have H7 : Hid _ := HB1.out.trans (hb7.mono (by have := HB1.out.size; simp at this; omega))
  have HO7 : Hid (Own w7 w1.heap.size g S kb kc n) := hO7
  have HB7 : Hid (Below w.heap.size w w7) := HB.out.trans (hb7.mono HB.out.size)
  clear l0 l1 l2 l3 l4 hb7 hO7
  obtain ⟨l0, l1, l2, l3, l4⟩ := rem_low H7.out
  have L1 := one_more l1
  have L3 := one_more l3
  have hm0 := World.block_lt_of_cell? _ _ l0
  have hm3 := World.block_lt_of_cell? _ _ l3
  go_wp2_with fail
  refine (DL.out _ g n kb kc _ (Own.below HO7.out ((Below.refl _ _).alloc (Nat.le_refl _) _))).mono ?_
  rintro e w9 ⟨rfl, hoff9, hO9⟩
  have b9 := (hoff9.cell (p := ⟨w7.heap.size, 0, none⟩) (by simp) (by show ¬ (w7.heap.size = g ∨ w7.heap.size = kb pa); omega)).trans (show _ = some (Value.slice (some ⟨g, 0, none⟩) n n) by go_simp)
  have r9 := (hoff9.cell (p := ⟨w.heap.size + 1 + 1, 0, none⟩) (by simp; omega) (by show ¬ (w.heap.size + 1 + 1 = g ∨ w.heap.size + 1 + 1 = kb pa); omega)).trans (L3 _)
  have f9 := fun o => (hoff9.frozen (p := ⟨w.heap.size + 1 + 1, o, none⟩) (by simp; omega) (by show ¬ (w.heap.size + 1 + 1 = g ∨ w.heap.size + 1 + 1 = kb pa); omega)).trans ((((Below.refl _ w7).alloc (Nat.le_refl _) (.cells #[.slice (some ⟨g, 0, none⟩) n n] 24)).frozen (by exact hm3)).trans (l4 o))
  have HB9 : Hid (Below w.heap.size w w9) := (HB7.out.alloc HB7.out.size _).trans (hoff9.below (by simp; omega) (fun k hk => by rcases hk with hk | hk <;> omega))
  have NS : Hid (∀ v (w3 : World), (∀ b, g ≤ b → w3.heap[b]? = (w9.setCell ⟨w.heap.size + 1 + 1, 0, none⟩ v).heap[b]?) → NdsAt w3 (some ⟨g, 0, none⟩) (leaveS S pa ch)) := fun v w3 hup => Own.up hO9 _ (fun b hb => (hup b hb).trans (Below.heap_setCell _ _ _ _ (by show b ≠ w.heap.size + 1 + 1; omega)))
  clear hO9 hoff9 l0 l1 l2 l3 l4 L1 L3
  go_wp2
  refine bodyPost_ret (v := .tuple #[.agg #[.slice (some ⟨g, 0, none⟩) n n], .int .i64 0]) (by simp [results, Tryz.results58, go_sem, r9]) rfl ⟨g, rfl, HB9.out.setCell (by simp; omega) _, by omega, NS.out _⟩
end Go.Proofs.YtgjfmepbphfjoaaGreat

namespace Go.Proofs.YtgjfmepbphfjoaaGreat
open Go.RowKit

set_option maxHeartbeats 4000000 in
theorem free_ok (a : Option Addr) (c : Nat) (S : List Nd) (k : Nat) (u : Int) (w : World) (hN : S.length ≤ 24) (hB : ∀ i, i < S.length → (nd S i).ks.length ≤ 1000) (hS : NdsAt w a S) (hk : k < S.length) (hF : findE S k u = 0) (hT : looseB S k) :
    Calls Tryz.prog 57 #[.agg #[.slice a S.length c], .agg #[.int .i64 k, .int .i64 u]] w fun e w' => ∃ g, e = .returned (.tuple #[.agg #[.slice (some ⟨g, 0, none⟩) S.length S.length], .int .i64 0]) ∧ Below w.heap.size w w' ∧ w.heap.size ≤ g ∧ ∀ w3 : World, (∀ b, g ≤ b → w3.heap[b]? = w'.heap[b]?) → NdsAt w3 (some ⟨g, 0, none⟩) (S.set k (freedNd (nd S k))) := by
  have hK := Nat.le_trans (hB k hk) (show 1000 ≤ 1000000 by omega)
  have dc := fun (W : World) (hW : NdsAt W a S) => copy_any a c S W hN hB hW
  have DC : Hid _ := dc
  replace hB : Big S := fun i hi => Nat.le_trans (hB i hi) (by omega)
  have D1 : Hid (∀ W, NdsAt W a S → Calls _ _ _ _ _) := fun W hW => find_ok a c S k u W (by omega) hB hW hk hF hK
  obtain ⟨r, hr⟩ : ∃ r, rightUnder (nd S k) = r := ⟨_, rfl⟩
  obtain ⟨hb0, hhb⟩ : ∃ b, hostB S k = b := ⟨_, rfl⟩
  have d2 := fun (v : Value) W => rightUnder_any (nd S k) v W
  rw [show (if (nd S k).h = -1 then (nd S k).p else (nd S k).h) = r from hr] at d2
  have D2 : Hid _ := d2
  have d3 := fun W hW => isHost_any a c S (k : Int) W (by omega) hW (by omega)
  rw [hhb] at d3
  have D3 : Hid _ := d3
  have HS : Hid (NdsAt w a S) := hS
  have N8 : Hid (∀ (w w3 : World) (B g : Nat) (kb kc : Nat → Nat), Own w B g S kb kc S.length → _ → NdsAt w3 (some ⟨g, 0, none⟩) (S.set k (freedNd (nd S k)))) := fun w w3 B g kb kc h hup => Own.nil8 h hk (freedNd (nd S k)) rfl w3 hup
  have OC : Hid (∀ (wr : World) (B g : Nat) (kb kc : Nat → Nat), Own wr B g S kb kc S.length → (g < wr.heap.size ∧ (∀ o, wr.frozen? ⟨g, o, none⟩ = false) ∧ (∃ v0 v1 v2 v3 v4 v5 v6 v7, wr.cell? ⟨g, k * 8, none⟩ = some v0 ∧ wr.cell? ⟨g, k * 8 + 1, none⟩ = some v1 ∧ wr.cell? ⟨g, k * 8 + 2, none⟩ = some v2 ∧ wr.cell? ⟨g, k * 8 + 3, none⟩ = some v3 ∧ wr.cell? ⟨g, k * 8 + 4, none⟩ = some v4 ∧ wr.cell? ⟨g, k * 8 + 5, none⟩ = some v5 ∧ wr.cell? ⟨g, k * 8 + 6, none⟩ = some v6 ∧ wr.cell? ⟨g, k * 8 + 7, none⟩ = some v7))) := fun wr B g kb kc h => by
    obtain ⟨_, F, hF, hNd, _⟩ := h
    exact ⟨hF.lt, hF.frozen, _, _, _, _, _, _, _, _, hF.cell (by omega), hF.cell (by omega), hF.cell (by omega), hF.cell (by omega), hF.cell (by omega), hF.cell (by omega), hF.cell (by omega), hF.cell (by omega)⟩
  obtain ⟨t1, t2, t3⟩ := hT
  rw [hr] at t1
  rw [hhb] at t3
  subst t1 t3
  have t4 : (nd S k).ks.length = 0 := by rw [t2]; rfl
  have hk2 : (k : Int) < (S.length : Int) := by omega
  have hk3 : decide ((k : Int) < 0) = false := decide_eq_false (by omega)
  unfold freedNd at N8 ⊢
  clear hS d2 d3 dc hF hB hr hhb t2 hK
  generalize hx : nd S k = x at *
  clear hx
  obtain ⟨xu, xn, xt, xm, xp, xks, xh, xc⟩ := x
  dsimp only at *
  generalize xks.length = L at *
  subst t4
  generalize hn : S.length = n at *
  clear hn
  go_enter Tryz.func57, Tryz.ntmps57
  go_wp2_with (go_at_call 10; refine (D1.out _ (HS.out.below (three_below _ _ _ _))).mono ?_; rintro e w1 ⟨kg, rfl, hb1, hkg⟩; clear hkg; simp only [World.size_alloc] at hb1; obtain ⟨l0, l1, l2, l3, z3⟩ := free_low hb1; have hs1 := hb1.size; simp only [World.size_alloc] at hs1; have q0 : w.heap.size < w1.heap.size := (by omega); have q1 : w.heap.size + 1 < w1.heap.size := (by omega); have q2 : w.heap.size + 1 + 1 < w1.heap.size := (by omega))
  refine (D2.out _ _).mono ?_
  rintro e w2 ⟨rfl, hb2⟩
  simp only [World.size_alloc] at hb2
  obtain ⟨hb12, n0, n1, n2, n3, n4, n5, n6, n7⟩ := free_mid hb1 hs1 hb2
  have hs2 := hb2.size
  simp only [World.size_alloc] at hs2
  clear l0 l1 l2 l3 z3
  obtain ⟨l0, l1, l2, l3, z3⟩ := free_low hb12
  have HBO : Hid (Below w.heap.size w w2) := (three_below _ _ _ _).trans (hb12.mono (by omega))
  have HB1 : Hid _ := hb1
  have HB2 : Hid _ := hb2
  have q3 : w1.heap.size < w2.heap.size := by omega
  clear hb1 hb2 hb12
  go_wp2_with fail
  refine (D3.out _ (HS.out.below HBO.out)).mono ?_
  rintro e w3 ⟨rfl, hb3⟩
  have hs3 := hb3.size
  have HBO3 : Hid (Below w.heap.size w w3) := HBO.out.trans (hb3.mono (by have := HBO.out.size; omega))
  have hb23 := HB2.out.trans (hb3.mono hs2)
  clear l0 l1 l2 l3 z3 n0 n1 n2 n3 n4 n5 n6 n7 hb3 HB2
  obtain ⟨hb13, n0, n1, n2, n3, n4, n5, n6, n7⟩ := free_mid HB1.out hs1 hb23
  obtain ⟨l0, l1, l2, l3, z3⟩ := free_low hb13
  have r1 : w1.heap.size < w3.heap.size := by omega
  have r2 : w.heap.size < w3.heap.size := by omega
  have r3 : w.heap.size + 1 < w3.heap.size := by omega
  have r4 : w.heap.size + 1 + 1 < w3.heap.size := by omega
  have HB23 : Hid _ := hb23
  clear hb13 hb23
  go_wp2_with fail
  refine (DC.out _ (HS.out.below HBO3.out)).mono ?_
  rintro e w4 ⟨g, kb, kc, rfl, hb4, hO4⟩
  have hg : w3.heap.size ≤ g := hO4.1
  have hs34 : w1.heap.size + 1 ≤ w3.heap.size := by omega
  have hb24 := HB23.out.trans (hb4.mono hs34)
  have hs4 := hb4.size
  have HBO4 : Hid (Below w.heap.size w w4) := HBO3.out.trans (hb4.mono (by have := HBO3.out.size; omega))
  clear l0 l1 l2 l3 z3 n0 n1 n2 n3 n4 n5 n6 n7 HB23
  obtain ⟨hb14, n0, n1, n2, n3, n4, n5, n6, n7⟩ := free_mid HB1.out hs1 hb24
  obtain ⟨l0, l1, l2, l3, z3⟩ := free_low hb14
  obtain ⟨hglt, hfz, v0, v1, v2, v3, v4, v5, v6, v7, d0, d1, d2, d3, d4, d5, d6, d7⟩ := OC.out _ _ _ _ _ hO4
  have hgge : w1.heap.size < g := by omega
  have HO4 : Hid (Own w4 w3.heap.size g S kb kc n) := hO4
  have HB14 : Hid _ := hb14
  clear hb14 hb24 hO4 hb4 hg
  go_wp2_with fail
  have t1 : w1.heap.size < w4.heap.size := by omega
  obtain ⟨W5, hW5⟩ : ∃ W5, W5 = w4.alloc (Obj.cells #[Value.slice (some ⟨g, 0, none⟩) n n] 24) := ⟨_, rfl⟩
  rw [← hW5]
  have k8 : W5.cell? ⟨w4.heap.size, 0, none⟩ = some (.slice (some ⟨g, 0, none⟩) n n) := by rw [hW5]; go_simp
  have k9 : W5.cell? ⟨w1.heap.size, 1, none⟩ = some (.int .i64 xn) := by rw [hW5]; go_simp
  have hsz : W5.heap.size = w4.heap.size + 1 := by rw [hW5]; simp
  have hbl : Below w4.heap.size w4 W5 := by rw [hW5]; exact (Below.refl _ _).alloc (Nat.le_refl _) _
  have hb5 := HB14.out.trans (hbl.mono (by have := HB14.out.size; simp at this; omega))
  have HBO5 : Hid (Below w.heap.size w W5) := HBO4.out.trans (hbl.mono HBO4.out.size)
  have HO5 : Hid (Own W5 w3.heap.size g S kb kc n) := Own.below HO4.out hbl
  clear l0 l1 l2 l3 z3 n0 n1 n2 n3 n4 n5 n6 n7 d0 d1 d2 d3 d4 d5 d6 d7 hfz HO4 HB14 hW5 hbl
  obtain ⟨l0, l1, l2, l3, z3⟩ := free_low hb5
  obtain ⟨_, hfz, v0', v1', v2', v3', v4', v5', v6', v7', d0, d1, d2, d3, d4, d5, d6, d7⟩ := OC.out _ _ _ _ _ HO5.out
  have u1 : w4.heap.size < W5.heap.size := by omega
  have u2 : w1.heap.size < W5.heap.size := by omega
  have u3 : w.heap.size + 1 < W5.heap.size := by omega
  have u4 : w.heap.size + 1 + 1 < W5.heap.size := by omega
  have u5 : g < W5.heap.size := by omega
  have u6 : w.heap.size + 1 + 1 < g := by omega
  have HSZ : Hid (W5.heap.size = w4.heap.size + 1) := hsz
  clear hb5 hsz
  have ne1 := World.new_ne W5 _ k8
  have ne2 := World.new_ne W5 _ k9
  have ne3 := World.new_ne W5 _ l1
  have e1 : ¬ g = w4.heap.size := by omega
  have e2 : ¬ w4.heap.size = g := by omega
  have e3 : ¬ g = w.heap.size + 1 := by omega
  have e4 : ¬ w.heap.size + 1 = g := by omega
  have e5 : ¬ g = w1.heap.size := by omega
  have e6 : ¬ w1.heap.size = g := by omega
  clear HBO4 HBO3 HBO HB1 HS D1 D2 D3 DC OC
  go_region_held3 (fun w'' => w''.cell? ⟨w4.heap.size, 0, none⟩ = some (.slice (some ⟨g, 0, none⟩) n n) ∧ w''.cell? ⟨w.heap.size + 1, 0, none⟩ = some (.int .i64 k) ∧ w''.cell? ⟨w1.heap.size, 1, none⟩ = some (.int .i64 xn)) (go_keep) (first | (go_at_call 75; refine (unused_any _ _).mono ?_; rintro e w' ⟨rfl, rfl⟩))
  all_goals (try go_wp2)
  all_goals
    refine bodyPost_ret (v := .tuple #[.agg #[.slice (some ⟨g, 0, none⟩) n n], .int .i64 0]) (by simp only [results, Tryz.results57]; go_simp) rfl ⟨g, rfl, ?_, by omega, fun w3 hup => ?_⟩
    · first
        | exact ((((((((((HBO5.out.setCell (by simp; omega) _).setCell (by simp; omega) _).setCell (by simp; omega) _).setCell (by simp; omega) _).setCell (by simp; omega) _).setCell (by simp; omega) _).setCell (by simp; omega) _).setCell (by simp; omega) _).setCell (by simp; omega) _).alloc (by simp; omega) _).drew
        | exact ((((((((((HBO5.out.setCell (by simp; omega) _).setCell (by simp; omega) _).setCell (by simp; omega) _).setCell (by simp; omega) _).setCell (by simp; omega) _).setCell (by simp; omega) _).setCell (by simp; omega) _).setCell (by simp; omega) _).alloc (by simp; omega) _).setCell (by simp; omega) _).drew
    · refine N8.out W5 w3 _ g kb kc HO5.out (fun b hb hlt => (hup b hb).trans ?_)
      first
        | (rw [heap_drew, ((Below.refl _ _).alloc (Nat.le_refl _) _).block b (by simpa using hlt), Below.heap_setCell _ _ _ _ (by show b ≠ w.heap.size + 1 + 1; omega)])
        | (rw [heap_drew, Below.heap_setCell _ _ _ _ (by show b ≠ w.heap.size + 1 + 1; omega), ((Below.refl _ _).alloc (Nat.le_refl _) _).block b (by simpa using hlt)])
end Go.Proofs.YtgjfmepbphfjoaaGreat
