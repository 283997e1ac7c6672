/-
  The contract of copyStore, over a store of nodes without children.
-/
import Derived.Test.YtefjjbbommgknaaC
namespace Go.Proofs.Ytefjjbbommgknaa
open Go.RowKit

theorem bcell {W w1 : World} (hb : Below W.heap.size W w1) : (∀ b o, b < W.heap.size → w1.cell? ⟨b, o, none⟩ = W.cell? ⟨b, o, none⟩) ∧ (∀ b o, b < W.heap.size → w1.frozen? ⟨b, o, none⟩ = W.frozen? ⟨b, o, none⟩) :=
  ⟨fun b o h => hb.cell (p := ⟨b, o, none⟩) h, fun b o h => hb.frozen (p := ⟨b, o, none⟩) h⟩

set_option maxHeartbeats 800000 in
theorem copyStore_any (b n c : Nat) (f : Nat → Nd) (w : World) (hn : n ≤ 24) (hS0 : Sto w b n f) :
    Calls Try.prog 30 #[.agg #[.slice (some ⟨b, 0, none⟩) n c]] w fun e w' => ∃ g, e = .returned (.agg #[.slice (some ⟨g, 0, none⟩) n n]) ∧ Below w.heap.size w w' ∧ w.heap.size ≤ g ∧ Sto w' g n f := by
  have hmk := make39 n (by omega)
  have hbw := hS0.lt
  have HS0 : Hid (Sto w b n f) := hS0
  clear hS0
  go_enter Try.func30, Try.ntmps30
  go_wp2
  go_loopg [13] n (fun g s13 wr => ∃ k : Nat, k ≤ n ∧ n - k ≤ g ∧ s13 = .int .i64 k ∧ Below (w.heap.size + 2) ((w.alloc (Obj.cells #[Value.slice (some ⟨b, 0, none⟩) n c] 29)).alloc (Obj.cells #[Value.slice none 0 0] 29)) wr ∧ w.heap.size + 2 < wr.heap.size ∧ Sto wr (w.heap.size + 1 + 1) n (fun i => if i < k then f i else zeroNd))
  case atStart =>
    refine ⟨0, Nat.zero_le _, by omega, rfl, (Below.refl _ _).alloc (by simp) _, by simp, ?_⟩
    have h := Sto.made ((w.alloc (Obj.cells #[Value.slice (some ⟨b, 0, none⟩) n c] 29)).alloc (Obj.cells #[Value.slice none 0 0] 29)) n
    simp only [World.size_alloc] at h
    exact h.congr (fun i _ => by simp)
  case round =>
    obtain ⟨k, hk, hg, rfl, hb, hsz, hS⟩ := hrel
    have hc0 : wr.cell? ⟨w.heap.size + 1, 0, none⟩ = some (.slice none 0 0) := (hb.cell (by simp)).trans (by go_simp)
    have hf0 : wr.frozen? ⟨w.heap.size + 1, 0, none⟩ = false := (hb.frozen (by simp)).trans (by go_simp)
    have hbo : Below w.heap.size w wr := (((Below.refl _ _).alloc (Nat.le_refl _) _).alloc (by simp) _).trans (hb.mono (by omega))
    by_cases hlt : k < n
    · obtain ⟨c0, c1, c2, c3, c4, ⟨ka, kc, c5⟩, c6, c7⟩ := (HS0.out.node hlt).below hbo hbw
      have HS : Hid (Sto wr (w.heap.size + 1 + 1) n (fun i => if i < k then f i else zeroNd)) := hS
      clear hS
      have HB : Hid (Below (w.heap.size + 2) ((w.alloc (Obj.cells #[Value.slice (some ⟨b, 0, none⟩) n c] 29)).alloc (Obj.cells #[Value.slice none 0 0] 29)) wr) := hb
      clear hb
      go_wp2_with (go_at_call 46; refine (copyNode_none _ _ _ _ _ _ _ _ _ _).mono ?_; rintro e w1 ⟨rfl, hb1⟩; have hS1 := (HS.out.alloc _).below hb1 (by simp; omega); obtain ⟨d0, d1, d2, d3, d4, ⟨la, lc, d5⟩, d6, d7⟩ := hS1.node hlt; have hfz := hS1.frozen; have HS1 : Hid (Sto w1 (w.heap.size + 1 + 1) n (fun i => if i < k then f i else zeroNd)) := hS1; clear hS1)
      go_roundg (n - (k + 1))
      case measure => omega
      case rel =>
        have h8 := HS1.out.set8 (k := k) (f k) (some ⟨wr.heap.size + 1 + 2, 0, none⟩) 0
        have hs1 := hb1.size
        simp only [World.size_alloc] at hs1
        refine ⟨k + 1, by omega, by omega, by go_num, ?_, by simp; omega, h8.congr (fun i _ => ?_)⟩
        · have hbx := (HB.out.alloc (by omega) _).trans (hb1.mono (by simp; omega))
          exact (((((((hbx.setCell (by simp) _).setCell (by simp) _).setCell (by simp) _).setCell (by simp) _).setCell (by simp) _).setCell (by simp) _).setCell (by simp) _).setCell (by simp) _
        · by_cases e : i = k
          · subst e
            rw [if_pos rfl, if_pos (by omega)]
          · rw [if_neg e]
            by_cases e2 : i < k
            · rw [if_pos e2, if_pos (by omega)]
            · rw [if_neg e2, if_neg (by omega)]
    · have : k = n := by omega
      subst this
      have HS : Hid (Sto wr (w.heap.size + 1 + 1) k (fun i => if i < k then f i else zeroNd)) := hS
      clear hS
      have HB : Hid (Below (w.heap.size + 2) ((w.alloc (Obj.cells #[Value.slice (some ⟨b, 0, none⟩) k c] 29)).alloc (Obj.cells #[Value.slice none 0 0] 29)) wr) := hb
      clear hb
      go_wp2
      refine bodyPost_ret (v := .agg #[.slice (some ⟨w.heap.size + 1 + 1, 0, none⟩) k k]) (by simp [results, Try.results30, go_sem, hc0]) rfl ⟨w.heap.size + 1 + 1, rfl, ?_, by omega, ?_⟩
      · exact hbo.setCell (by simp) _
      · exact (HS.out.setOther (by simp) _).congr (fun i hi => if_pos hi)
end Go.Proofs.Ytefjjbbommgknaa
