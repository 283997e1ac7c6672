/-
  The contract of store.Find, over any store.
-/
import Derived.Test.YtiekhgpnmcffiacJUbWb
import Derived.Test.YtiekhgpnmcffiacJTk
import Derived.Test.YtiekhgpnmcffiacJSn
namespace Go.Proofs.Ytiekhgpnmcffiac
open Go.RowKit

theorem find_low {w w1 : World} {v : Value} {x y : Int} (hb : Below (w.heap.size + 1 + 1 + 1) (((w.alloc (.cells #[v] 24)).alloc (.cells #[.int .i64 x, .int .i64 y] 26)).alloc (.cells #[.bool false, .int .i64 0, .int .i64 0, .int .i64 0, .int .i64 0, .slice none 0 0, .int .i64 0, .bool false] 52)) w1) :
    (w1.cell? ⟨w.heap.size, 0, none⟩ = some v ∧ w1.cell? ⟨w.heap.size + 1, 0, none⟩ = some (.int .i64 x) ∧ w1.cell? ⟨w.heap.size + 1, 1, none⟩ = some (.int .i64 y)) ∧
    (w1.cell? ⟨w.heap.size + 1 + 1, 0, none⟩ = some (.bool false) ∧ w1.cell? ⟨w.heap.size + 1 + 1, 1, none⟩ = some (.int .i64 0) ∧ w1.cell? ⟨w.heap.size + 1 + 1, 2, none⟩ = some (.int .i64 0) ∧ w1.cell? ⟨w.heap.size + 1 + 1, 3, none⟩ = some (.int .i64 0) ∧ w1.cell? ⟨w.heap.size + 1 + 1, 4, none⟩ = some (.int .i64 0) ∧ w1.cell? ⟨w.heap.size + 1 + 1, 5, none⟩ = some (.slice none 0 0) ∧ w1.cell? ⟨w.heap.size + 1 + 1, 6, none⟩ = some (.int .i64 0) ∧ w1.cell? ⟨w.heap.size + 1 + 1, 7, none⟩ = some (.bool false)) ∧
    (∀ o, w1.frozen? ⟨w.heap.size + 1 + 1, o, none⟩ = false) ∧ Below w.heap.size w w1 := by
  refine ⟨⟨?_, ?_, ?_⟩, ⟨?_, ?_, ?_, ?_, ?_, ?_, ?_, ?_⟩, fun o => ?_, (three_below _ _ _ _).trans (hb.mono (by omega))⟩
  all_goals first | exact (hb.cell (by first | (simp; done) | (simp; omega))).trans (by go_simp) | exact (hb.frozen (by first | (simp; done) | (simp; omega))).trans (by go_simp)

/-- What Find says is wrong. -/
def findE (S : List Nd) (p u : Int) : Int := if checkE S = 0 then holdsE S p u else checkE S

theorem find_zero {S : List Nd} {p u : Int} (h : WF S) (hh : holdsE S p u = 0) : findE S p u = 0 := by
  rw [findE, if_pos ((wf_iff S).mpr h)]
  exact hh
theorem find_parts {S : List Nd} {p u : Int} (h : findE S p u = 0) : checkE S = 0 ∧ holdsE S p u = 0 := by
  unfold findE at h
  by_cases hc : checkE S = 0
  · rw [if_pos hc] at h
    exact ⟨hc, h⟩
  · rw [if_neg hc] at h
    exact absurd h hc

set_option maxHeartbeats 1000000 in
theorem find_err (a : Option Addr) (c : Nat) (S : List Nd) (p u E : Int) (w : World) (hN : S.length ≤ 9223372036854775807) (hB : Big S) (hS : NdsAt w a S) (hE : findE S p u = E) (hE0 : E ≠ 0) :
    Calls Try.prog 38 #[.agg #[.slice a S.length c], .agg #[.int .i64 p, .int .i64 u]] w fun e w' => e = .returned (.tuple #[.agg #[.bool false, .int .i64 0, .int .i64 0, .int .i64 0, .int .i64 0, .slice none 0 0, .int .i64 0, .bool false], .int .i64 E]) ∧ Below w.heap.size w w' := by
  have d0 := fun W hW => check_any a c S W hN hB hW
  have d1 := fun W hW => holds_any a c S p u W hN hW
  have HS : Hid (NdsAt w a S) := hS
  have hz : (E == 0) = false := by simp [hE0]
  unfold findE at hE
  by_cases hc : checkE S = 0
  · rw [if_pos hc] at hE
    rw [hE] at d1
    rw [hc] at d0
    have D0 : Hid _ := d0
    have D1 : Hid _ := d1
    clear hS d0 d1 hE hB hc
    generalize S.length = n at *
    go_enter Try.func38, Try.ntmps38
    go_wp2_with (go_at_call 71; refine (D0.out _ (HS.out.below (three_below _ _ _ _))).mono ?_; rintro e w1 ⟨rfl, hb1⟩; simp only [World.size_alloc] at hb1; obtain ⟨⟨l0, l1, l2⟩, ⟨z0, z1, z2, z3, z4, z5, z6, z7⟩, hz', hbo⟩ := find_low hb1)
    refine (D1.out _ (HS.out.below hbo)).mono ?_
    rintro e w2 ⟨rfl, hb2⟩
    have hs1 := hb1.size
    simp only [World.size_alloc] at hs1
    have hb12 := hb1.trans (hb2.mono hs1)
    clear l0 l1 l2 z0 z1 z2 z3 z4 z5 z6 z7 hz' hbo hb1 hb2
    obtain ⟨⟨l0, l1, l2⟩, ⟨z0, z1, z2, z3, z4, z5, z6, z7⟩, hz', hbo⟩ := find_low hb12
    go_wp2
    refine bodyPost_ret (v := .tuple #[.agg #[.bool false, .int .i64 0, .int .i64 0, .int .i64 0, .int .i64 0, .slice none 0 0, .int .i64 0, .bool false], .int .i64 E]) (by simp [results, Try.results38, go_sem, z0, z1, z2, z3, z4, z5, z6, z7]) rfl ⟨rfl, ?_⟩
    exact (((((((hbo.setCell (by simp; omega) _).setCell (by simp; omega) _).setCell (by simp; omega) _).setCell (by simp; omega) _).setCell (by simp; omega) _).setCell (by simp; omega) _).setCell (by simp; omega) _).setCell (by simp; omega) _
  · rw [if_neg hc] at hE
    rw [hE] at d0
    have D0 : Hid _ := d0
    clear hS d0 d1 hE hB hc
    generalize S.length = n at *
    go_enter Try.func38, Try.ntmps38
    go_wp2_with (go_at_call 71; refine (D0.out _ (HS.out.below (three_below _ _ _ _))).mono ?_; rintro e w1 ⟨rfl, hb1⟩; simp only [World.size_alloc] at hb1; obtain ⟨⟨l0, l1, l2⟩, ⟨z0, z1, z2, z3, z4, z5, z6, z7⟩, hz', hbo⟩ := find_low hb1)
    refine bodyPost_ret (v := .tuple #[.agg #[.bool false, .int .i64 0, .int .i64 0, .int .i64 0, .int .i64 0, .slice none 0 0, .int .i64 0, .bool false], .int .i64 E]) (by simp [results, Try.results38, go_sem, z0, z1, z2, z3, z4, z5, z6, z7]) rfl ⟨rfl, ?_⟩
    exact (((((((hbo.setCell (by simp; omega) _).setCell (by simp; omega) _).setCell (by simp; omega) _).setCell (by simp; omega) _).setCell (by simp; omega) _).setCell (by simp; omega) _).setCell (by simp; omega) _).setCell (by simp; omega) _

set_option maxHeartbeats 1000000 in
theorem find_ok (a : Option Addr) (c : Nat) (S : List Nd) (k : Nat) (u : Int) (w : World) (hN : S.length ≤ 9223372036854775807) (hB : Big S) (hS : NdsAt w a S) (hk : k < S.length) (hE : findE S k u = 0) (hK : (nd S k).ks.length ≤ 1000000) :
    Calls Try.prog 38 #[.agg #[.slice a S.length c], .agg #[.int .i64 k, .int .i64 u]] w fun e w' => ∃ g, e = .returned (.tuple #[.agg #[.bool (nd S k).u, .int .i64 (nd S k).n, .int .i64 (nd S k).t, .int .i64 (nd S k).m, .int .i64 (nd S k).p, .slice (some ⟨g, 0, none⟩) (nd S k).ks.length (nd S k).ks.length, .int .i64 (nd S k).h, .bool (nd S k).c], .int .i64 0]) ∧ Below w.heap.size w w' ∧ IntsAt w' (some ⟨g, 0, none⟩) (nd S k).ks := by
  have d1 := fun W hW => holds_any a c S k u W hN hW
  rw [(find_parts hE).2] at d1
  have D1 : Hid _ := d1
  have d0 := fun W hW => check_any a c S W hN hB hW
  rw [(find_parts hE).1] at d0
  have D0 : Hid _ := d0
  have HS : Hid (NdsAt w a S) := hS
  have d2 := fun ka kc W hW => copyNode_any (nd S k) ka kc W hK hW
  have D2 : Hid _ := d2
  have NX : Hid (∀ w1, Below w.heap.size w w1 → ∃ b o, a = some ⟨b, o, none⟩ ∧ NdAt w1 b (o + k * 8) (nd S k)) := fun w1 h1 => (hS.below h1) k hk
  have hk2 : (k : Int) < (S.length : Int) := by omega
  have IR : Hid (∀ (W : World) g, W.rowIs g 3 (nd S k).ks.length (fun j => .int .i64 ((nd S k).ks.getD j 0)) → IntsAt W (some ⟨g, 0, none⟩) (nd S k).ks) := fun W g h => ints_of_row h (Nat.le_refl _) (fun _ _ => rfl)
  clear hS d0 d1 d2 hE hK hB
  generalize nd S k = x at *
  obtain ⟨xu, xn, xt, xm, xp, xks, xh, xc⟩ := x
  unfold NdAt at NX
  dsimp only at *
  generalize hL : xks.length = L at *
  have HL : Hid _ := hL
  clear hL
  generalize S.length = n at *
  go_enter Try.func38, Try.ntmps38
  go_wp2_with (go_at_call 71; refine (D0.out _ (HS.out.below (three_below _ _ _ _))).mono ?_; rintro e w0 ⟨rfl, hb0⟩; simp only [World.size_alloc] at hb0; obtain ⟨⟨l0, l1, l2⟩, ⟨z0, z1, z2, z3, z4, z5, z6, z7⟩, hz', hbo0⟩ := find_low hb0)
  refine (D1.out _ (HS.out.below hbo0)).mono ?_
  rintro e w1 ⟨rfl, hb1'⟩
  have hs0 := hb0.size
  simp only [World.size_alloc] at hs0
  have hb1 := hb0.trans (hb1'.mono hs0)
  clear l0 l1 l2 z0 z1 z2 z3 z4 z5 z6 z7 hz' hbo0 hb0 hb1'
  obtain ⟨⟨l0, l1, l2⟩, ⟨z0, z1, z2, z3, z4, z5, z6, z7⟩, hz', hbo⟩ := find_low hb1
  obtain ⟨b, o, rfl, c0, c1, c2, c3, c4, ⟨ka, kc, c5, hks⟩, c6, c7⟩ := NX.out _ hbo
  have HKS : Hid _ := hks
  have HB1 : Hid _ := hb1
  clear hks hb1 hbo
  go_wp2_with fail
  refine (D2.out ka kc _ HKS.out).mono ?_
  rintro e w2 ⟨g, rfl, hb2, hg, hrow⟩
  have hs1 := HB1.out.size
  simp only [World.size_alloc] at hs1
  have hb12 := HB1.out.trans (hb2.mono hs1)
  clear l0 l1 l2 z0 z1 z2 z3 z4 z5 z6 z7 hz' c0 c1 c2 c3 c4 c5 c6 c7
  obtain ⟨⟨l0, l1, l2⟩, ⟨z0, z1, z2, z3, z4, z5, z6, z7⟩, hz', hbo⟩ := find_low hb12
  have HBO : Hid _ := hbo
  have HR : Hid (w2.rowIs g 3 L (fun j => .int .i64 (xks.getD j 0))) := hrow
  clear hb2 hb12 hbo hrow
  go_wp2
  refine bodyPost_ret (v := .tuple #[.agg #[.bool xu, .int .i64 xn, .int .i64 xt, .int .i64 xm, .int .i64 xp, .slice (some ⟨g, 0, none⟩) L L, .int .i64 xh, .bool xc], .int .i64 0]) (by simp [results, Try.results38, go_sem, z0, z1, z2, z3, z4, z5, z6, z7]) rfl ⟨g, rfl, ?_, ?_⟩
  · exact (((((((HBO.out.setCell (by simp; omega) _).setCell (by simp; omega) _).setCell (by simp; omega) _).setCell (by simp; omega) _).setCell (by simp; omega) _).setCell (by simp; omega) _).setCell (by simp; omega) _).setCell (by simp; omega) _
  · refine IR.out _ g ?_
    exact (((((((HR.out.setOther (by simp; omega) _).setOther (by simp; omega) _).setOther (by simp; omega) _).setOther (by simp; omega) _).setOther (by simp; omega) _).setOther (by simp; omega) _).setOther (by simp; omega) _).setOther (by simp; omega) _

end Go.Proofs.Ytiekhgpnmcffiac
