/-
  The contract of tree.Remove, over any store.
-/
import Derived.Test.YtjlapfgghljidaaUWbWdSrWfTm
namespace Go.Proofs.Ytjlapfgghljidaa
open Go.RowKit

theorem rem_low {w w1 : World} {a : Option Addr} {n c : Nat} {p pu : Int} (hb : Below (w.heap.size + 1 + 1 + 1) (((w.alloc (.cells #[.slice a n c] 24)).alloc (.cells #[.int .i64 p, .int .i64 pu] 26)).alloc (.cells #[.slice none 0 0] 24)) w1) :
    w1.cell? ⟨w.heap.size, 0, none⟩ = some (.slice a n c) ∧ w1.cell? ⟨w.heap.size + 1, 0, none⟩ = some (.int .i64 p) ∧ w1.cell? ⟨w.heap.size + 1, 1, none⟩ = some (.int .i64 pu) ∧ w1.cell? ⟨w.heap.size + 1 + 1, 0, none⟩ = some (.slice none 0 0) ∧ (∀ o, w1.frozen? ⟨w.heap.size + 1 + 1, o, none⟩ = false) := by
  refine ⟨?_, ?_, ?_, ?_, fun o => ?_⟩
  all_goals first | exact (hb.cell (by first | (simp; done) | (simp; omega))).trans (by go_simp) | exact (hb.frozen (by first | (simp; done) | (simp; omega))).trans (by go_simp)

set_option maxHeartbeats 1000000 in
theorem remove_err (a : Option Addr) (c : Nat) (S : List Nd) (p u E : Int) (w : World) (hN : S.length ≤ 9223372036854775807) (hB : Big S) (hS : NdsAt w a S) (hE : tcheckE S [(p, u)] = E) (hE0 : E ≠ 0) :
    Calls Try.prog 26 #[.agg #[.slice a S.length c], .agg #[.int .i64 p, .int .i64 u]] w fun e w' => e = .returned (.tuple #[.agg #[.slice none 0 0], .int .i64 E]) ∧ Below w.heap.size w w' := by
  have d1 := fun (W : World) (ha : Option Addr) (hW : NdsAt W a S) (hH : HandsAt W ha [(p, u)]) => tcheck_any a c S ha 1 [(p, u)] W hN hB hW (by simp) hH
  rw [hE] at d1
  have D1 : Hid _ := d1
  have HS : Hid (NdsAt w a S) := hS
  clear hS d1 hE hB
  have hz : (E == 0) = false := by simp [hE0]
  generalize S.length = n at *
  go_enter Try.func26, Try.ntmps26
  go_wp2_with (go_at_call 58; refine (D1.out _ _ (HS.out.below (four_below _ _ _ _ _)) (hands_one _ _ _ _ (by go_simp) (by go_simp))).mono ?_; rintro e w1 ⟨rfl, hb1⟩; simp only [World.size_alloc] at hb1; obtain ⟨l0, l1, l2, l3, l4⟩ := rem_low (((Below.refl _ _).alloc (by simp) _).trans (hb1.mono (by omega))); have HB : Hid _ := hb1; clear hb1)
  refine bodyPost_ret (v := .tuple #[.agg #[.slice none 0 0], .int .i64 E]) (by simp [results, Try.results26, go_sem, l3]) rfl ⟨rfl, ?_⟩
  exact ((four_below _ _ _ _ _).trans (HB.out.mono (by omega))).setCell (by simp; omega) _

set_option maxHeartbeats 1000000 in
theorem remove_none (a : Option Addr) (c : Nat) (S : List Nd) (ch : Nat) (u : Int) (w : World) (hN : S.length ≤ 9223372036854775807) (hB : Big S) (hS : NdsAt w a S) (hE : tcheckE S [((ch : Int), u)] = 0) (hch : ch < S.length) (hp : (nd S ch).p = -1) :
    Calls Try.prog 26 #[.agg #[.slice a S.length c], .agg #[.int .i64 ch, .int .i64 u]] w fun e w' => e = .returned (.tuple #[.agg #[.slice none 0 0], .int .i64 6]) ∧ Below w.heap.size w w' := by
  have d1 := fun (W : World) (ha : Option Addr) (hW : NdsAt W a S) (hH : HandsAt W ha [((ch : Int), u)]) => tcheck_any a c S ha 1 [((ch : Int), u)] W hN hB hW (by simp) hH
  rw [hE] at d1
  have D1 : Hid _ := d1
  have HS : Hid (NdsAt w a S) := hS
  have hch2 : (ch : Int) < (S.length : Int) := by omega
  have QP : Hid (∀ W, NdsAt W a S → ∃ b o, a = some ⟨b, o, none⟩ ∧ W.cell? ⟨b, o + ch * 8 + 4, none⟩ = some (.int .i64 (-1))) := fun W hW => by
    obtain ⟨b, o, e, _, _, _, _, c4, _⟩ := hW ch hch
    exact ⟨b, o, e, by rw [c4, hp]⟩
  clear hS d1 hE hB hp
  generalize S.length = n at *
  go_enter Try.func26, Try.ntmps26
  go_wp2_with (go_at_call 58; refine (D1.out _ _ (HS.out.below (four_below _ _ _ _ _)) (hands_one _ _ _ _ (by go_simp) (by go_simp))).mono ?_; rintro e w1 ⟨rfl, hb1⟩; simp only [World.size_alloc] at hb1; obtain ⟨l0, l1, l2, l3, l4⟩ := rem_low (((Below.refl _ _).alloc (by simp) _).trans (hb1.mono (by omega))); have hbw := (four_below _ _ _ _ _).trans (hb1.mono (by omega)); obtain ⟨b, o, rfl, qp⟩ := QP.out _ (HS.out.below hbw); have HB : Hid _ := hbw; have hq := World.block_lt_of_cell? _ _ qp; clear hb1 hbw)
  refine bodyPost_ret (v := .tuple #[.agg #[.slice none 0 0], .int .i64 6]) (by simp [results, Try.results26, go_sem, l3]) rfl ⟨rfl, ?_⟩
  exact HB.out.setCell (by simp; omega) _

set_option maxHeartbeats 2000000 in
theorem remove_ok (a : Option Addr) (c : Nat) (S : List Nd) (ch pa : Nat) (u : Int) (w : World) (hN : S.length ≤ 24) (hB : Big S) (hS : NdsAt w a S) (hE : tcheckE S [((ch : Int), u)] = 0) (hch : ch < S.length) (hpa : pa < S.length) (hne : pa ≠ ch) (hp : (nd S ch).p = pa) (hK : ∀ i, i < S.length → (nd S i).ks.length ≤ 1000) :
    Calls Try.prog 26 #[.agg #[.slice a S.length c], .agg #[.int .i64 ch, .int .i64 u]] w fun e w' => ∃ g, e = .returned (.tuple #[.agg #[.slice (some ⟨g, 0, none⟩) S.length S.length], .int .i64 0]) ∧ Below w.heap.size w w' ∧ w.heap.size ≤ g ∧ ∀ w3 : World, (∀ b, g ≤ b → w3.heap[b]? = w'.heap[b]?) → NdsAt w3 (some ⟨g, 0, none⟩) (leaveS S pa ch) := by
  have d1 := fun (W : World) (ha : Option Addr) (hW : NdsAt W a S) (hH : HandsAt W ha [((ch : Int), u)]) => tcheck_any a c S ha 1 [((ch : Int), u)] W (by omega) hB hW (by simp) hH
  rw [hE] at d1
  have D1 : Hid _ := d1
  have HS : Hid (NdsAt w a S) := hS
  have hch2 : (ch : Int) < (S.length : Int) := by omega
  have QP : Hid (∀ W, NdsAt W a S → ∃ b o, a = some ⟨b, o, none⟩ ∧ W.cell? ⟨b, o + ch * 8 + 4, none⟩ = some (.int .i64 (pa : Int))) := fun W hW => by
    obtain ⟨b, o, e, _, _, _, _, c4, _⟩ := hW ch hch
    exact ⟨b, o, e, by rw [c4, hp]⟩
  have dc := fun (W : World) (hW : NdsAt W a S) => copy_any a c S W hN hK hW
  have DC : Hid _ := dc
  have dl := fun (B g c : Nat) (kb kc : Nat → Nat) (W : World) (hO : Own W B g S kb kc S.length) => leave_any B g c S kb kc pa ch W hO hpa hch hne hp
  have DL : Hid _ := dl
  have OC : Hid (∀ (wr : World) (B g : Nat) (kb kc : Nat → Nat), Own wr B g S kb kc S.length → B ≤ g ∧ g < wr.heap.size ∧ g < kb pa ∧ kb pa < wr.heap.size) := fun wr B g kb kc h => by
    obtain ⟨hB, F, hF, hNd, hg, _⟩ := h
    exact ⟨hB, hF.lt, hg pa hpa, (hNd pa hpa).row⟩
  clear hS d1 hE hB hp dc dl hK
  generalize hn : S.length = n at *
  have HN : Hid _ := hn
  clear hn
  go_enter Try.func26, Try.ntmps26
  go_wp2_with (go_at_call 58; refine (D1.out _ _ (HS.out.below (four_below _ _ _ _ _)) (hands_one _ _ _ _ (by go_simp) (by go_simp))).mono ?_; rintro e w1 ⟨rfl, hb1⟩; simp only [World.size_alloc] at hb1; have HB1 : Hid (Below (w.heap.size + 1 + 1 + 1) (((w.alloc (.cells #[.slice a n c] 24)).alloc (.cells #[.int .i64 (ch : Int), .int .i64 u] 26)).alloc (.cells #[.slice none 0 0] 24)) w1) := ((Below.refl _ _).alloc (by simp) _).trans (hb1.mono (by omega)); obtain ⟨l0, l1, l2, l3, l4⟩ := rem_low HB1.out; have hbw := (four_below _ _ _ _ _).trans (hb1.mono (by omega)); obtain ⟨b, o, ea, qp⟩ := QP.out _ (HS.out.below hbw); have HB : Hid _ := hbw; have hq := World.block_lt_of_cell? _ _ qp; have hl0 := World.block_lt_of_cell? _ _ l0; have hl1 := World.block_lt_of_cell? _ _ l1; have hl3 := World.block_lt_of_cell? _ _ l3; subst ea; clear hb1 hbw)
  refine (DC.out _ (HS.out.below HB.out)).mono ?_
  rintro e w7 ⟨g, kb, kc, rfl, hb7, hO7⟩
  obtain ⟨hgB, hgl, hgk, hkl⟩ := OC.out _ _ _ _ _ hO7
  have hs7 := hb7.size
  have H7 : Hid _ := HB1.out.trans (hb7.mono (by have := HB1.out.size; simp at this; omega))
  have HO7 : Hid (Own w7 w1.heap.size g S kb kc n) := hO7
  have HB7 : Hid (Below w.heap.size w w7) := HB.out.trans (hb7.mono HB.out.size)
  clear l0 l1 l2 l3 l4 hb7 hO7
  obtain ⟨l0, l1, l2, l3, l4⟩ := rem_low H7.out
  have L1 := one_more l1
  have L3 := one_more l3
  have hm0 := World.block_lt_of_cell? _ _ l0
  have hm3 := World.block_lt_of_cell? _ _ l3
  go_wp2_with fail
  refine (DL.out _ g n kb kc _ (Own.below HO7.out ((Below.refl _ _).alloc (Nat.le_refl _) _))).mono ?_
  rintro e w9 ⟨rfl, hoff9, hO9⟩
  have b9 := (hoff9.cell (p := ⟨w7.heap.size, 0, none⟩) (by simp) (by show ¬ (w7.heap.size = g ∨ w7.heap.size = kb pa); omega)).trans (show _ = some (Value.slice (some ⟨g, 0, none⟩) n n) by go_simp)
  have r9 := (hoff9.cell (p := ⟨w.heap.size + 1 + 1, 0, none⟩) (by simp; omega) (by show ¬ (w.heap.size + 1 + 1 = g ∨ w.heap.size + 1 + 1 = kb pa); omega)).trans (L3 _)
  have f9 := fun o => (hoff9.frozen (p := ⟨w.heap.size + 1 + 1, o, none⟩) (by simp; omega) (by show ¬ (w.heap.size + 1 + 1 = g ∨ w.heap.size + 1 + 1 = kb pa); omega)).trans ((((Below.refl _ w7).alloc (Nat.le_refl _) (.cells #[.slice (some ⟨g, 0, none⟩) n n] 24)).frozen (by exact hm3)).trans (l4 o))
  have HB9 : Hid (Below w.heap.size w w9) := (HB7.out.alloc HB7.out.size _).trans (hoff9.below (by simp; omega) (fun k hk => by rcases hk with hk | hk <;> omega))
  have NS : Hid (∀ v (w3 : World), (∀ b, g ≤ b → w3.heap[b]? = (w9.setCell ⟨w.heap.size + 1 + 1, 0, none⟩ v).heap[b]?) → NdsAt w3 (some ⟨g, 0, none⟩) (leaveS S pa ch)) := fun v w3 hup => Own.up hO9 _ (fun b hb => (hup b hb).trans (Below.heap_setCell _ _ _ _ (by show b ≠ w.heap.size + 1 + 1; omega)))
  clear hO9 hoff9 l0 l1 l2 l3 l4 L1 L3
  go_wp2
  refine bodyPost_ret (v := .tuple #[.agg #[.slice (some ⟨g, 0, none⟩) n n], .int .i64 0]) (by simp [results, Try.results26, go_sem, r9]) rfl ⟨g, rfl, HB9.out.setCell (by simp; omega) _, by omega, NS.out _⟩
end Go.Proofs.Ytjlapfgghljidaa
