/-
  The contract of tree.Order.
-/
import Derived.Test.YthnpbdcoiepemabSl
import Derived.Laws.EntriesVeiled
namespace Go.Proofs.Ythnpbdcoiepemab
open Go.RowKit

theorem order_low {w w1 : World} {a : Option Addr} {n c : Nat} {p u : Int} {o3 : Obj} (hb : Below (w.heap.size + 1 + 1 + 1) (((w.alloc (.cells #[.slice a n c] 24)).alloc (.cells #[.int .i64 p, .int .i64 u] 26)).alloc o3) w1) :
    w1.cell? ⟨w.heap.size, 0, none⟩ = some (.slice a n c) ∧ w1.cell? ⟨w.heap.size + 1, 0, none⟩ = some (.int .i64 p) ∧ w1.cell? ⟨w.heap.size + 1, 1, none⟩ = some (.int .i64 u) :=
  ⟨(hb.cell (by simp; omega)).trans (by go_simp), (hb.cell (by simp)).trans (by go_simp), (hb.cell (by simp)).trans (by go_simp)⟩

theorem two_more {w1 : World} {p : Addr} {v : Value} (h : w1.cell? p = some v) (o1 o2 : Obj) : ((w1.alloc o1).alloc o2).cell? p = some v :=
  ((((Below.refl _ _).alloc (Nat.le_refl _) o1).alloc (by simp) o2).cell (World.block_lt_of_cell? _ _ h)).trans h

theorem hands_one (W : World) (b : Nat) (p u : Int) (h1 : W.cell? ⟨b, 0, none⟩ = some (.int .i64 p)) (h2 : W.cell? ⟨b, 1, none⟩ = some (.int .i64 u)) : HandsAt W (some ⟨b, 0, none⟩) [(p, u)] := fun i hi => by
  have : i = 0 := by simpa using hi
  subst this
  exact ⟨b, 0, rfl, by simpa using h1, by simpa using h2⟩

set_option maxHeartbeats 1000000 in
theorem order_err (a : Option Addr) (c : Nat) (S : List Nd) (p u E : Int) (w : World) (hN : S.length ≤ 9223372036854775807) (hB : Big S) (hS : NdsAt w a S) (hE : tcheckE S [(p, u)] = E) (hE0 : E ≠ 0) :
    Calls Try.prog 11 #[.agg #[.slice a S.length c], .agg #[.int .i64 p, .int .i64 u]] w fun e w' => e = .returned (.tuple #[.slice none 0 0, .int .i64 E]) ∧ Below w.heap.size w w' := by
  have d1 := fun (W : World) (ha : Option Addr) (hW : NdsAt W a S) (hH : HandsAt W ha [(p, u)]) => tcheck_any a c S ha 1 [(p, u)] W hN hB hW (by simp) hH
  rw [hE] at d1
  have D1 : Hid _ := d1
  have HS : Hid (NdsAt w a S) := hS
  clear hS d1 hE hB
  have hz : (E == 0) = false := by simp [hE0]
  generalize S.length = n at *
  go_enter Try.func11, Try.ntmps11
  go_wp2_with (go_at_call 43; refine (D1.out _ _ (HS.out.below ((((Below.refl _ _).alloc (Nat.le_refl _) _).alloc (by simp) _).alloc (by simp; omega) _)) (hands_one _ _ _ _ (by go_simp) (by go_simp))).mono ?_; rintro e w1 ⟨rfl, hb1⟩)
  refine bodyPost_ret (v := .tuple #[.slice none 0 0, .int .i64 E]) (by simp [results, Try.results11, go_sem]) rfl ⟨rfl, ?_⟩
  exact ((((Below.refl _ _).alloc (Nat.le_refl _) _).alloc (by simp) _).alloc (by simp; omega) _).trans (hb1.mono (by simp; omega))

set_option maxHeartbeats 1000000 in
theorem order_ok (a : Option Addr) (c : Nat) (S : List Nd) (k f : Nat) (u : Int) (w : World) (hN : S.length ≤ 9223372036854775807) (hB : Big S) (hS : NdsAt w a S) (hE : tcheckE S [((k : Int), u)] = 0) (hk : k < S.length) (hD : Deep S f k) (hlen : (orderF S f k).length ≤ 1000000) :
    Calls Try.prog 11 #[.agg #[.slice a S.length c], .agg #[.int .i64 k, .int .i64 u]] w fun e w' => ∃ sa cap, e = .returned (.tuple #[.slice sa (orderF S f k).length cap, .int .i64 0]) ∧ Below w.heap.size w w' ∧ IntsAt w' sa (orderF S f k) ∧ (orderF S f k).length ≤ cap ∧ cap ≤ 9223372036854775807 := by
  have d1 := fun (W : World) (ha : Option Addr) (hW : NdsAt W a S) (hH : HandsAt W ha [((k : Int), u)]) => tcheck_any a c S ha 1 [((k : Int), u)] W hN hB hW (by simp) hH
  rw [hE] at d1
  have D1 : Hid _ := d1
  have HS : Hid (NdsAt w a S) := hS
  have D2 : Hid (∀ (w1 : World) (o1 o2 : Obj), w.heap.size + 3 ≤ w1.heap.size → Below w.heap.size w w1 →
      ((w1.alloc o1).alloc o2).cell? ⟨w.heap.size, 0, none⟩ = some (.slice a S.length c) →
      ((w1.alloc o1).alloc o2).cell? ⟨w1.heap.size + 1, 0, none⟩ = some (.func (.func 50) #[] #[.pointer (some ⟨w1.heap.size, 0, none⟩), .pointer (some ⟨w.heap.size, 0, none⟩), .pointer (some ⟨w1.heap.size + 1, 0, none⟩)]) →
      ((w1.alloc o1).alloc o2).cell? ⟨w1.heap.size, 0, none⟩ = some (.slice none 0 0) → ((w1.alloc o1).alloc o2).frozen? ⟨w1.heap.size, 0, none⟩ = false →
      Calls Try.prog 50 #[.int .i64 k, .pointer (some ⟨w1.heap.size, 0, none⟩), .pointer (some ⟨w.heap.size, 0, none⟩), .pointer (some ⟨w1.heap.size + 1, 0, none⟩)] ((w1.alloc o1).alloc o2) fun e w2 => e = .returned (.tuple #[]) ∧ OrdI ((w1.alloc o1).alloc o2) w1.heap.size (orderF S f k) w2) := fun w1 o1 o2 hsz hb1 h1 h2 h3 h4 => by
    have h := walk_any S a c w ((w1.alloc o1).alloc o2) w1.heap.size w.heap.size (w1.heap.size + 1) (by simp; omega) (by simp; omega) (by simp) (by omega) (by omega) hN hB h1 h2 hS (fun w2 h2 => ((hb1.alloc hb1.size _).alloc (by simp; omega) _).trans (h2.below (by simp; omega) (fun k hk => by rw [hk]; omega))) f k [] ((w1.alloc o1).alloc o2) hk hD (by simpa using hlen) ⟨Off.refl _ _, _, h3, h4, World.ownsRow_nil _ _ _ _⟩
    simpa using h
  clear hS d1 hE hB hD
  generalize S.length = n at *
  generalize hl : orderF S f k = l at *
  have HL : Hid _ := hl
  clear hl
  go_enter Try.func11, Try.ntmps11
  go_wp2_with (go_at_call 43; refine (D1.out _ _ (HS.out.below ((((Below.refl _ _).alloc (Nat.le_refl _) _).alloc (by simp) _).alloc (by simp; omega) _)) (hands_one _ _ _ _ (by go_simp) (by go_simp))).mono ?_; rintro e w1 ⟨rfl, hb1⟩; simp only [World.size_alloc] at hb1; obtain ⟨l0, l1, l2⟩ := order_low hb1; have hs1 := hb1.size; simp only [World.size_alloc] at hs1; have hb0 : Below w.heap.size w w1 := ((((Below.refl _ _).alloc (Nat.le_refl _) _).alloc (by simp) _).alloc (by simp; omega) _).trans (hb1.mono (by omega)); have L0 := two_more l0; have L1 := two_more l1)
  refine (D2.out w1 _ _ (by omega) hb0 (L0 _ _) (by go_simp) (by go_simp) (by go_simp)).mono ?_
  rintro e w2 ⟨rfl, hO, v, hc, hf, hown⟩
  obtain ⟨sa, cap, rfl, hia, hcap, hcm⟩ : ∃ sa cap, v = .slice sa l.length cap ∧ IntsAt w2 sa l ∧ l.length ≤ cap ∧ cap ≤ 9223372036854775807 := by
    obtain ⟨hl, h⟩ := hown
    rcases h with ⟨rfl, h0⟩ | ⟨g, cap, cur, rfl, _, hg, h1, h2, h3, h4⟩
    · exact ⟨none, 0, by rw [h0], fun i hi => by omega, by omega, by omega⟩
    · refine ⟨some ⟨g, 0, none⟩, cap, rfl, fun i hi => ⟨g, 0, rfl, ?_⟩, h1, by unfold maxLen at h2; omega⟩
      have h5 : (cur.toList.take (l.length * 1))[i]? = some (.int .i64 (l.getD i 0)) := by
        rw [h4, List.getElem?_map, List.getElem?_eq_getElem hi, getD_elem l 0 hi]; rfl
      rw [List.getElem?_take, if_pos (by omega)] at h5
      simp only [Nat.zero_add, World.cell?, hg]
      simpa using h5
  have HIA : Hid _ := hia
  have HB : Below w.heap.size w w2 := ((hb0.alloc hb0.size _).alloc (by simp; omega) _).trans (hO.below (by simp; omega) (fun k hk => by rw [hk]; omega))
  clear hown hO hia L0 L1 l0 l1 l2
  go_wp2
  refine bodyPost_ret (v := .tuple #[.slice sa l.length cap, .int .i64 0]) (by simp [results, Try.results11, go_sem]) rfl ⟨sa, cap, rfl, HB, HIA.out, hcap, hcm⟩
end Go.Proofs.Ythnpbdcoiepemab
