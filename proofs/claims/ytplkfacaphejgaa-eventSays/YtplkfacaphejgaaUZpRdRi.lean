/-
  Rows of a call's own, and boxes: what is known of them.
-/
import Derived.Test.YtplkfacaphejgaaUZa
import Derived.Test.YtplkfacaphejgaaUWfUe
import Derived.Test.YtplkfacaphejgaaUSaBa
import Derived.Test.YtplkfacaphejgaaURaSlSmBkBoLay
import Derived.Test.YtplkfacaphejgaaUXdRbRh
import Derived.Test.YtplkfacaphejgaaUTdTe
import Derived.Test.YtplkfacaphejgaaUXa
namespace Go.Proofs.Ytplkfacaphejgaa
open Go.RowKit

theorem ownsRow_base {w : World} {B B' e size n : Nat} {v : Value} {xs : List Value} (h : w.ownsRow B e size v n xs) (hB : B' ≤ B) : w.ownsRow B' e size v n xs := by
  obtain ⟨h1, h2⟩ := h
  refine ⟨h1, ?_⟩
  rcases h2 with h2 | ⟨g, cap, cur, h3, h4, h5⟩
  · exact Or.inl h2
  · exact Or.inr ⟨g, cap, cur, h3, Nat.le_trans hB h4, h5⟩

theorem infoBool : (Try.prog.info? 4).map (fun i => (i.zero, i.size, i.bytes)) = some (some (.bool false), 1, 1) := by kernel_rfl

theorem makeBools (n : Nat) (hn : n ≤ 24) (w : World) : (Instr.makeSlice 114 (.int .i64 (n : Int)) (.int .i64 (n : Int))).run Try.prog w = .ok (.slice (some ⟨w.heap.size, 0, none⟩) n n) (w.alloc (.cells (madeCells #[.bool false] n) 4)) :=
  run_make_row' (P := Try.prog) 114 4 (.bool false) 1 Try.underlying114 infoBool rfl .i64 .i64 n (by omega) (by omega) w

theorem row_of_own {w : World} {B g n cap : Nat} {ks : List Int} (h : w.ownsRow B 3 1 (.slice (some ⟨g, 0, none⟩) n cap) n (ks.map (Value.int .i64))) : B ≤ g ∧ n ≤ cap ∧ cap ≤ maxLen ∧ ks.length = n ∧ ∃ G, w.rowIs g 3 cap G ∧ ∀ j, j < n → G j = .int .i64 (ks.getD j 0) := by
  obtain ⟨hl, h⟩ := h
  rw [List.length_map, Nat.mul_one] at hl
  rcases h with ⟨h, _⟩ | ⟨g', cap', cur, e, h1, h2, h3, h4, h5, h6⟩
  · cases h
  · cases e
    rw [Nat.mul_one] at h5 h6
    refine ⟨h1, h3, h4, hl, fun j => cur[j]?.getD undef, ⟨cur, h2, h5, fun i hi => ?_⟩, fun j hj => ?_⟩
    · show cur[i]? = some (cur[i]?.getD undef)
      rw [Array.getElem?_eq_getElem (by omega)]
      rfl
    · have h7 : (cur.toList.take n)[j]? = (ks.map (Value.int .i64))[j]? := by rw [h6]
      rw [List.getElem?_take, if_pos hj, List.getElem?_map, List.getElem?_eq_getElem (l := ks) (by omega)] at h7
      show cur[j]?.getD undef = _
      rw [← Array.getElem?_toList, h7, getD_elem ks 0 (by omega)]
      rfl

theorem own_slice {w : World} {B : Nat} {v : Value} {ks : List Int} (h : w.ownsRow B 3 1 v ks.length (ks.map (Value.int .i64))) : ∃ pa pc, v = .slice pa ks.length pc ∧ IntsAt w pa ks ∧ (∀ k, v.ownBlock = some k → B ≤ k ∧ k < w.heap.size) := by
  have hlt := h.lt
  rcases h.2 with ⟨e, e0⟩ | ⟨g, cap, cur, e, _⟩
  · have hk : ks = [] := List.length_eq_zero_iff.1 e0
    subst hk
    exact ⟨none, 0, e, fun i hi => absurd hi (Nat.not_lt_zero _), hlt⟩
  · subst e
    obtain ⟨_, h2, _, _, G, hG, hGk⟩ := row_of_own h
    exact ⟨some ⟨g, 0, none⟩, cap, rfl, ints_of_row hG h2 hGk, hlt⟩

end Go.Proofs.Ytplkfacaphejgaa

namespace Go.Proofs.Ytplkfacaphejgaa
open Go.RowKit

theorem own_below {w w' : World} {B : Nat} {v : Value} {l : List Int} (h : w.ownsRow B 3 1 v l.length (l.map (Value.int .i64))) (hb : Below w.heap.size w w') : w'.ownsRow B 3 1 v l.length (l.map (Value.int .i64)) :=
  h.kept (row := none) ⟨hb.os, hb.tape, hb.output, hb.size, fun k hk _ => hb.block k hk⟩ (by
    cases hv : v.ownBlock with
    | none => exact Or.inl rfl
    | some k => exact Or.inr (fun e => by cases e))

set_option maxRecDepth 100000 in
set_option maxHeartbeats 4000000 in
theorem rLine_any (a : Option Addr) (c : Nat) (S : List Nd) (k : Int) (w : World) (hN : S.length ≤ 24) (hS : NdsAt w a S) :
    Calls Try.prog 20 #[.agg #[.slice a S.length c], .int .i64 k] w fun e w' => ∃ v, e = .returned v ∧ Below w.heap.size w w' ∧ w'.ownsRow w.heap.size 3 1 v (lineF S (S.length + 1) k).length ((lineF S (S.length + 1) k).map (Value.int .i64)) := by
  obtain ⟨i0, hi0, hz0, hz1, hz2⟩ := info_parts info3
  have HS : Hid (NdsAt w a S) := hS
  have LF : Hid (∀ f (y : Nat), y < S.length → lineF S (f + 1) (y : Int) = (y : Int) :: lineF S f (rightUnder (nd S y))) := fun f y hy => by rw [lineF, if_pos (isPl_nat.2 hy), Int.toNat_natCast]
  have LN : Hid (∀ f (x : Int), ¬ (0 ≤ x ∧ x < (S.length : Int)) → lineF S f x = []) := fun f x hx => by
    cases f with
    | zero => rfl
    | succ f =>
      rw [lineF, if_neg]
      intro h
      have h2 : 0 ≤ x ∧ x ≤ (S.length : Int) - 1 := of_decide_eq_true h
      exact hx (by omega)
  obtain ⟨L0, hL0⟩ : ∃ l, lineF S (S.length + 1) k = l := ⟨_, rfl⟩
  rw [hL0]
  have E0 : Hid (L0 = [] ++ lineF S (S.length + 1 - 0) k) := (by rw [← hL0]; rfl : L0 = [] ++ lineF S (S.length + 1 - 0) k)
  clear hS hL0
  obtain ⟨n, hn⟩ : ∃ n, S.length = n := ⟨_, rfl⟩
  have HN : Hid (S.length = n) := hn
  rw [hn] at hN E0 LF LN ⊢
  clear hn
  go_enter Try.func20, Try.ntmps20
  go_wp2_with fail
  go_loopg [1, 5] (n + 1) (fun g s1 s5 wr => ∃ (j : Nat) (x : Int) (l : List Int), j ≤ n + 1 ∧ (n + 1) - j ≤ g ∧ s1 = .int .i64 x ∧ l.length = j ∧ Hid (Below w.heap.size w wr) ∧ wr.cell? ⟨w.heap.size, 0, none⟩ = some (.slice a n c) ∧ w.heap.size < wr.heap.size ∧ Hid (wr.ownsRow (w.heap.size + 1) 3 1 s5 l.length (l.map (Value.int .i64))) ∧ Hid (L0 = l ++ lineF S (n + 1 - j) x))
  case atStart => exact ⟨0, k, [], by omega, by omega, rfl, rfl, (Below.refl _ _).alloc (Nat.le_refl _) _, by go_simp, by simp, World.ownsRow_nil _ _ _ _, E0⟩
  case round =>
    obtain ⟨j, x, l, hj, hg, rfl, hl, HB, cs, hsz, HO, HE⟩ := hrel
    obtain ⟨pa, pc, hv, _⟩ := own_slice HO.out
    subst hv
    clear E0
    obtain ⟨ln, hln⟩ : ∃ y, l.length = y := ⟨_, rfl⟩
    have HLN : Hid (l.length = ln) := hln
    rw [hln]
    have hlj : ln = j := by omega
    subst hlj
    have EXIT : Hid (lineF S (n + 1 - ln) x = [] → wr.ownsRow w.heap.size 3 1 (.slice pa ln pc) L0.length (L0.map (Value.int .i64))) := fun h => by
      have e := HE.out
      rw [h, List.append_nil] at e
      rw [e]
      have h2 := ownsRow_base HO.out (Nat.le_succ _)
      rw [hln] at h2
      rw [hln]
      exact h2
    have OWN : Hid (wr.ownsRow (w.heap.size + 1) 3 1 (.slice pa ln pc) ln (l.map (Value.int .i64))) := by have h2 := HO.out; rw [hln] at h2; exact h2
    clear hl hln HO
    by_cases hx : 0 ≤ x ∧ x < (n : Int)
    · obtain ⟨y, rfl⟩ : ∃ y : Nat, x = y := ⟨x.toNat, by omega⟩
      have hy : y < n := by omega
      obtain ⟨hx0, hx1⟩ := hx
      have b1 : decide ((0 : Int) ≤ (y : Int)) = true := decide_eq_true hx0
      have b2 : decide ((y : Int) < (n : Int)) = true := decide_eq_true hx1
      by_cases hjn : ln ≤ n
      · have b3 : decide ((ln : Int) ≤ (n : Int)) = true := decide_eq_true (by omega)
        have hjn2 : (ln : Int) ≤ (n : Int) := by omega
        have EQ : Hid (L0 = (l ++ [(y : Int)]) ++ lineF S (n + 1 - (ln + 1)) (rightUnder (nd S y))) := by
          have e := HE.out
          rw [show n + 1 - ln = (n + 1 - (ln + 1)) + 1 by omega, LF.out _ y hy] at e
          show L0 = _
          rw [e, List.append_assoc]
          rfl
        obtain ⟨r, hr⟩ : ∃ r, rightUnder (nd S y) = r := ⟨_, rfl⟩
        have d2 := fun (v : Value) W => rRightUnder_any (nd S y) v W
        rw [show (if (nd S y).h = -1 then (nd S y).p else (nd S y).h) = r from hr] at d2
        have RUy : Hid _ := d2
        rw [hr] at EQ
        clear HE EXIT d2 hr
        have OB : Hid (∀ k, (Value.slice pa ln pc).ownBlock = some k → w.heap.size + 1 ≤ k) := fun k hk => (OWN.out.lt k hk).1
        go_wp2_with (at_builtin; refine wpList_append_own _ rfl _ _ 41 rfl (w.heap.size + 1) 3 i0 (.int .i64 0) 1 8 Try.underlying41 hi0 hz0 hz1 hz2 rfl (by decide) _ _ _ rfl (OWN.out.alloc _) ⟨wr.heap.size, 0, none⟩ 1 1 [.int .i64 (y : Int)] rfl rfl ?c1 ?c2 ?c3 ?c4 ?c5 ?_)
        case c2 => first | rfl | (intro u hu; simp at hu; subst hu; rfl) | simp
        case c3 => unfold maxLen; omega
        case c4 => omega
        case c5 => first | omega | (simp; omega)
        case c1 => first | (go_simp; done) | (intro j u hj; match j, hj with | 0, hj => (cases hj; go_simp) | (j + 1), hj => simp at hj)
        intro v' w2 hown' hgrow _
        obtain ⟨g', cap', rfl⟩ : ∃ g' cap', v' = .slice (some ⟨g', 0, none⟩) (ln + 1) cap' := by
          rcases hown'.2 with ⟨_, h⟩ | ⟨g', cap', cur, h, _⟩
          · omega
          · exact ⟨g', cap', h⟩
        have hb2 : Below (w.heap.size + 1) wr w2 := ((Below.refl _ wr).alloc (by omega) _).grown hgrow (by simp; omega) (fun k hk => OB.out k hk)
        have HB2 : Hid (Below w.heap.size w w2) := HB.out.trans (hb2.mono (by omega))
        have cs2 := (hb2.cell (p := ⟨w.heap.size, 0, none⟩) (by show w.heap.size < _; omega)).trans cs
        have hsz2 := World.block_lt_of_cell? _ _ cs2
        obtain ⟨nb, no, ea, k0, k1, k2, k3, k4, ⟨ka, kc, k5, _⟩, k6, k7⟩ := (HS.out.below HB2.out) y (by rw [HN.out]; exact hy)
        subst ea
        have hnb := World.block_lt_of_cell? _ _ k0
        have HO2 : Hid (w2.ownsRow (w.heap.size + 1) 3 1 (.slice (some ⟨g', 0, none⟩) (ln + 1) cap') (l ++ [(y : Int)]).length ((l ++ [(y : Int)]).map (Value.int .i64))) := by
          have h2 := hown'
          rw [show (l ++ [(y : Int)]).length = ln + 1 by simp [HLN.out], List.map_append]
          exact h2
        have HL2 : Hid ((l ++ [(y : Int)]).length = ln + 1) := (by simp [HLN.out] : (l ++ [(y : Int)]).length = ln + 1)
        clear hown' hgrow hb2 cs OWN
        go_wp2_with fail
        refine Calls.mono (RUy.out _ _) ?_
        rintro e w3 ⟨rfl, hb3⟩
        have HB3 : Hid (Below w.heap.size w w3) := HB2.out.trans (hb3.mono HB2.out.size)
        have cs3 := (hb3.cell (p := ⟨w.heap.size, 0, none⟩) hsz2).trans cs2
        have HO3 : Hid _ := own_below HO2.out hb3
        have hs3 := hb3.size
        clear hb3 k0 k1 k2 k3 k4 k5 k6 k7 cs2
        go_wp2
        go_roundg ((n + 1) - (ln + 1))
        case measure => omega
        case rel => exact ⟨ln + 1, _, l ++ [(y : Int)], by omega, by omega, rfl, HL2.out, HB3, cs3, by omega, HO3, EQ⟩
      · have hjn2 : ¬ (ln : Int) ≤ (n : Int) := by omega
        have b3 : decide ((ln : Int) ≤ (n : Int)) = false := decide_eq_false hjn2
        have hz : n + 1 - ln = 0 := by omega
        have OW : Hid _ := EXIT.out (by rw [hz]; rfl)
        clear EXIT HE OWN
        go_wp2
        go_ret
        exact ⟨_, rfl, HB.out, OW.out⟩
    · have OW : Hid _ := EXIT.out (LN.out _ _ hx)
      clear EXIT HE OWN
      by_cases h0 : 0 ≤ x
      · have h1 : ¬ x < (n : Int) := fun h => hx ⟨h0, h⟩
        have b1 : decide ((0 : Int) ≤ x) = true := decide_eq_true h0
        have b2 : decide (x < (n : Int)) = false := decide_eq_false h1
        clear hx
        go_wp2
        go_ret
        exact ⟨_, rfl, HB.out, OW.out⟩
      · have b1 : decide ((0 : Int) ≤ x) = false := decide_eq_false h0
        clear hx
        go_wp2
        go_ret
        exact ⟨_, rfl, HB.out, OW.out⟩
end Go.Proofs.Ytplkfacaphejgaa

namespace Go.Proofs.Ytplkfacaphejgaa
open Go.RowKit

/-- Behind OwnStore, in a function with three boxes: the row, and what is known of the boxes. -/
theorem own_after {w w1 w2 : World} {a : Option Addr} {c n : Nat} {S : List Nd} {K : Nat → Value} {v : Value} (h0 : 0 < n) (hb1 : Below (w.heap.size + 1 + 1 + 1) (((w.alloc (.cells #[.slice a n c] 24)).alloc (.cells #[.slice none 0 0] 24)).alloc (.cells #[.int .i64 0, .int .i64 0] 27)) w1) (hb2 : Below w1.heap.size w1 w2) (hown : OwnK w1.heap.size S n K v w2) :
    ∃ g cap, v = .slice (some ⟨g, 0, none⟩) n cap ∧ w.heap.size + 3 ≤ g ∧ g < w2.heap.size ∧ n ≤ cap ∧ cap ≤ 9223372036854775807 ∧ OwnK (w.heap.size + 3) S n K (.slice (some ⟨g, 0, none⟩) n cap) (w2.setCell ⟨w.heap.size, 0, none⟩ (.slice (some ⟨g, 0, none⟩) n cap)) ∧
    Below w.heap.size w (w2.setCell ⟨w.heap.size, 0, none⟩ (.slice (some ⟨g, 0, none⟩) n cap)) ∧ (w2.cell? ⟨w.heap.size, 0, none⟩ = some (.slice a n c) ∧ w2.frozen? ⟨w.heap.size, 0, none⟩ = false) ∧
    w2.cell? ⟨w.heap.size + 1, 0, none⟩ = some (.slice none 0 0) ∧ w2.cell? ⟨w.heap.size + 1 + 1, 0, none⟩ = some (.int .i64 0) ∧ w2.cell? ⟨w.heap.size + 1 + 1, 1, none⟩ = some (.int .i64 0) ∧
    w2.frozen? ⟨w.heap.size + 1, 0, none⟩ = false ∧ w2.frozen? ⟨w.heap.size + 1 + 1, 0, none⟩ = false ∧ w2.frozen? ⟨w.heap.size + 1 + 1, 1, none⟩ = false := by
  have hs1 := hb1.size
  simp only [World.size_alloc] at hs1
  have hb3 : Below (w.heap.size + 1 + 1 + 1) _ w2 := hb1.trans (hb2.mono (by omega))
  obtain ⟨l0, l1, l2, l3, z1, z2, z3⟩ := make_low hb3
  have z0 : w2.frozen? ⟨w.heap.size, 0, none⟩ = false := (hb3.frozen (by simp; omega)).trans (by go_simp)
  have hm := hown.1
  obtain ⟨g, cap, rfl, h1, h2, h3, h4⟩ : ∃ g cap, v = .slice (some ⟨g, 0, none⟩) n cap ∧ w1.heap.size ≤ g ∧ g < w2.heap.size ∧ n ≤ cap ∧ cap ≤ 9223372036854775807 := by
    have hl := hm.lt
    rcases hm.2 with ⟨_, h⟩ | ⟨g, cap, cur, h, h1, _, h3, h4, _⟩
    · omega
    · subst h
      exact ⟨g, cap, rfl, h1, (hl g rfl).2, h3, by unfold maxLen at h4; omega⟩
  refine ⟨g, cap, rfl, by omega, h2, h3, h4, ?_, ?_, ⟨l0, z0⟩, l1, l2, l3, z1, z2, z3⟩
  · have ho : OwnK (w.heap.size + 3) S n K (.slice (some ⟨g, 0, none⟩) n cap) w2 := ⟨ownsRow_baseL hown.1 (by omega), fun i hi => ownsRow_baseL (hown.2 i hi) (by omega)⟩
    exact ho.other (fun b hb _ => Below.heap_setCell _ _ _ _ (by simp; omega))
  · exact ((three_below _ _ _ _).trans (hb3.mono (by omega))).setCell (by simp) _

theorem cell_else {W : World} {g o1 b o : Nat} {u v : Value} (hb : b ≠ g) (h : W.cell? ⟨b, o, none⟩ = some v) : (W.setCell ⟨g, o1, none⟩ u).cell? ⟨b, o, none⟩ = some v :=
  (World.cell?_of_block (Below.heap_setCell _ _ _ _ hb)).trans h
theorem frozen_else {W : World} {a b : Addr} {u : Value} (h : W.frozen? b = false) : (W.setCell a u).frozen? b = false := by
  rw [World.frozen?_setCell]; exact h

end Go.Proofs.Ytplkfacaphejgaa
