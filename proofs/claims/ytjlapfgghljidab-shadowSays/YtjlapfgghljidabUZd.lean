/-
  The contract of rootsBetween.
-/
import Derived.Test.YtjlapfgghljidabUZgZbZc
namespace Go.Proofs.Ytjlapfgghljidab
open Go.RowKit

set_option maxRecDepth 100000 in
set_option maxHeartbeats 2000000 in
theorem out1_any (a : Option Addr) (c : Nat) (S : List Nd) (x : Nat) (B : Bool) (bs gs b0 : Nat) (w : World) (hx : x < S.length) (hS : NdsAt w a S) (cb : w.cell? ⟨bs, 0, none⟩ = some (.slice (some ⟨gs, 0, none⟩) S.length S.length)) (cr : w.cell? ⟨gs, x, none⟩ = some (.bool B)) (cs : w.cell? ⟨b0, 0, none⟩ = some (.slice a S.length c)) :
    Calls Try.prog 79 #[.int .i64 (x : Int), .pointer (some ⟨bs, 0, none⟩), .pointer (some ⟨b0, 0, none⟩)] w fun e w' => e = .returned (.bool (B || decide ((nd S x).h = -1))) ∧ Below w.heap.size w w' := by
  obtain ⟨nb, no, rfl, _, _, _, _, _, _, c6, _⟩ := hS x hx
  have hx2 : (x : Int) < (S.length : Int) := by omega
  clear hS
  generalize S.length = n at *
  generalize (nd S x).h = h at *
  cases B with
  | true =>
    go_enter Try.func79, Try.ntmps79
    go_wp2
    go_ret
    exact ⟨rfl, Below.refl _ _⟩
  | false =>
    by_cases e : h = -1
    · subst e
      go_enter Try.func79, Try.ntmps79
      go_wp2
      go_ret
      exact ⟨rfl, Below.refl _ _⟩
    · have e2 : (h == -1) = false := by simpa using e
      rw [show (false || decide (h = -1)) = false by simp [e]]
      go_enter Try.func79, Try.ntmps79
      go_wp2
      go_ret
      exact ⟨rfl, Below.refl _ _⟩

def RB (w : World) (a : Option Addr) (n c : Nat) (P Q : List Int) (k : Nat) (wr : World) : Prop :=
  Below w.heap.size w wr ∧ w.heap.size + 1 + 1 + 1 ≤ wr.heap.size ∧ wr.cell? ⟨w.heap.size, 0, none⟩ = some (.slice a n c) ∧ (∀ o, wr.frozen? ⟨w.heap.size + 1 + 1, o, none⟩ = false) ∧
  ∃ v0 v1, wr.cell? ⟨w.heap.size + 1 + 1, 0, none⟩ = some v0 ∧ wr.cell? ⟨w.heap.size + 1 + 1, 1, none⟩ = some v1 ∧ (1 ≤ k → wr.ownsRow (w.heap.size + 1 + 1 + 1) 3 1 v0 P.length (P.map (Value.int .i64))) ∧ (2 ≤ k → wr.ownsRow (w.heap.size + 1 + 1 + 1) 3 1 v1 Q.length (Q.map (Value.int .i64)))

theorem owns_below {w w' : World} {B : Nat} {v : Value} {l : List Int} (h : w.ownsRow B 3 1 v l.length (l.map (Value.int .i64))) (hb : Below w.heap.size w w') : w'.ownsRow B 3 1 v l.length (l.map (Value.int .i64)) :=
  h.kept (row := none) ⟨hb.os, hb.tape, hb.output, hb.size, fun k hk _ => hb.block k hk⟩ (by
    cases hv : v.ownBlock with
    | none => exact Or.inl rfl
    | some k => exact Or.inr (fun e => by cases e))

theorem owns_set {w : World} {B b o : Nat} {v x : Value} {l : List Int} (h : w.ownsRow B 3 1 v l.length (l.map (Value.int .i64))) (hb : ∀ k, v.ownBlock = some k → k ≠ b) : (w.setCell ⟨b, o, none⟩ x).ownsRow B 3 1 v l.length (l.map (Value.int .i64)) :=
  h.kept (grownBy_setCell w ⟨b, o, none⟩ x) (by
    cases hv : v.ownBlock with
    | none => exact Or.inl rfl
    | some k => exact Or.inr (fun e => hb k hv (by simpa using e)))

theorem contains_take (P : List Int) (j i : Nat) (h : j < P.length) (x : Nat) (hx : P.getD j 0 = (x : Int)) : (P.take (j + 1)).contains (i : Int) = if i = x then true else (P.take j).contains (i : Int) := by
  rw [List.take_add_one, List.getElem?_eq_getElem h]
  rw [getD_elem P 0 h] at hx
  rw [hx]
  by_cases e : i = x
  · subst e
    simp
  · rw [if_neg e]
    have : ¬ (i : Int) = (x : Int) := by omega
    simp [this]

set_option maxRecDepth 100000 in
set_option maxHeartbeats 4000000 in
theorem rootsBetween_any (a : Option Addr) (c : Nat) (S : List Nd) (p q : Nat) (w : World) (hN : S.length ≤ 24) (hp : p < S.length) (hq : q < S.length) (hS : NdsAt w a S) :
    Calls Try.prog 55 #[.agg #[.slice a S.length c], .agg #[.int .i64 (p : Int), .int .i64 (q : Int)]] w fun e w' => ∃ v, e = .returned v ∧ Below w.heap.size w w' ∧ w'.ownsRow w.heap.size 3 1 v (rootsF S p q).length ((rootsF S p q).map (Value.int .i64)) := by
  have hmk := makeBools S.length hN
  have ix0 : ∀ w : World, (Instr.index 80 (.agg #[.int .i64 (p : Int), .int .i64 (q : Int)]) (.int .i64 0)).run Try.prog w = .ok (.int .i64 (p : Int)) w := fun _ => by kernel_rfl
  have ix1 : ∀ w : World, (Instr.index 80 (.agg #[.int .i64 (p : Int), .int .i64 (q : Int)]) (.int .i64 1)).run Try.prog w = .ok (.int .i64 (q : Int)) w := fun _ => by kernel_rfl
  have DP : Hid (∀ W, NdsAt W a S → Calls _ _ _ _ _) := fun W hW => pathFrom_any a c S p W hN hp hW
  have DQ : Hid (∀ W, NdsAt W a S → Calls _ _ _ _ _) := fun W hW => pathFrom_any a c S q W hN hq hW
  have HS : Hid (NdsAt w a S) := hS
  obtain ⟨P, hP⟩ : ∃ P, pathF S p = P := ⟨_, rfl⟩
  obtain ⟨Q, hQ⟩ : ∃ Q, pathF S q = Q := ⟨_, rfl⟩
  have hPl : P.length ≤ 1000 := by have := path_len S p; rw [hP] at this; omega
  have hQl : Q.length ≤ 1000 := by have := path_len S q; rw [hQ] at this; omega
  have PM : Hid (∀ j, j < P.length → ∃ x : Nat, P.getD j 0 = x ∧ x < S.length) := fun j hj => by
    obtain ⟨x, _, e1, e2, _⟩ := mem_path (k := p) hp (y := P.getD j 0) (by rw [hP, getD_elem P 0 hj]; exact List.getElem_mem hj)
    exact ⟨x, e1, e2⟩
  have QM : Hid (∀ y ∈ Q, ∃ x : Nat, y = x ∧ x < S.length) := fun y hy => by
    obtain ⟨x, _, e1, e2, _⟩ := mem_path (k := q) hq (y := y) (by rw [hQ]; exact hy)
    exact ⟨x, e1, e2⟩
  have RF : Hid (rootsF S p q = flt (outB S P) Q) := by
    show _ = _
    unfold rootsF
    rw [hP, hQ]
  have HQ0 : Hid (Q.length = (lineF S S.length (rightUnder (nd S q))).length + 1) := by show _ = _; rw [← hQ]; unfold pathF; simp
  rw [hP] at DP
  rw [hQ] at DQ
  have OUT : Hid (∀ (x : Nat) B bs gs W, x < S.length → NdsAt W a S → W.cell? ⟨bs, 0, none⟩ = some (.slice (some ⟨gs, 0, none⟩) S.length S.length) → W.cell? ⟨gs, x, none⟩ = some (.bool B) → W.cell? ⟨w.heap.size, 0, none⟩ = some (.slice a S.length c) → Calls _ _ _ _ _) := fun x B bs gs W h1 h2 h3 h4 h5 => out1_any a c S x B bs gs w.heap.size W h1 h2 h3 h4 h5
  generalize rootsF S p q = R at *
  clear hS hP hQ
  generalize hn : S.length = n at *
  clear hn
  go_enter Try.func55, Try.ntmps55
  go_wp2_with fail
  go_loopg [12] 2 (fun g s12 wr => ∃ k : Nat, k ≤ 2 ∧ 2 - k ≤ g ∧ s12 = .int .i64 k ∧ Hid (RB w a n c P Q k wr))
  case atStart =>
    refine ⟨0, by omega, by omega, rfl, (show RB w a n c P Q 0 _ from ⟨three_below _ _ _ _, by simp, by go_simp, fun o => by go_simp, .slice none 0 0, .slice none 0 0, by go_simp, by go_simp, fun h => by omega, fun h => by omega⟩)⟩
  case round =>
    obtain ⟨k, hk, hg, rfl, I⟩ := hrel
    obtain ⟨i1, i2, i3, i4, v0, v1, i5, i6, i7, i8⟩ := I.out
    clear I
    have HB : Hid (Below w.heap.size w wr) := i1
    have q1 : w.heap.size < wr.heap.size := by omega
    have q2 : w.heap.size + 1 + 1 < wr.heap.size := by omega
    obtain rfl | rfl | rfl : k = 0 ∨ k = 1 ∨ k = 2 := by omega
    · clear i1 i7 i8
      go_wp2_with fail
      refine Calls.mono (DP.out wr (HS.out.below HB.out)) ?_
      rintro e w2 ⟨v, rfl, hb2, hown2⟩
      obtain ⟨pa, pc, hv, _⟩ := own_slice hown2
      have hs2 := hb2.size
      have c3 := (hb2.cell (p := ⟨w.heap.size, 0, none⟩) q1).trans i3
      have c4 := fun o => (hb2.frozen (p := ⟨w.heap.size + 1 + 1, o, none⟩) q2).trans (i4 o)
      have c5 := (hb2.cell (p := ⟨w.heap.size + 1 + 1, 0, none⟩) q2).trans i5
      have c6 := (hb2.cell (p := ⟨w.heap.size + 1 + 1, 1, none⟩) q2).trans i6
      have HOW : Hid ((w2.setCell ⟨w.heap.size + 1 + 1, 0, none⟩ v).ownsRow (w.heap.size + 1 + 1 + 1) 3 1 v P.length (P.map (Value.int .i64))) := owns_set (ownsRow_base hown2 i2) (fun k hk => by have := (hown2.lt k hk).1; omega)
      have HB2 : Hid (Below w.heap.size w w2) := HB.out.trans (hb2.mono HB.out.size)
      clear hb2 hown2 i3 i4 i5 i6
      subst hv
      go_wp2
      go_roundg 1
      case measure => omega
      case rel =>
        refine ⟨1, by omega, by omega, by go_num, (show RB w a n c P Q 1 _ from ⟨HB2.out.setCell (by simp; omega) _, by simp; omega, ?_, fun o => ?_, .slice pa P.length pc, v1, ?_, ?_, fun _ => HOW.out, fun h => by omega⟩)⟩
        · go_simp
        · go_simp
        · go_simp
        · go_simp
    · have h7 := i7 (by omega)
      have HO0 : Hid (wr.ownsRow (w.heap.size + 1 + 1 + 1) 3 1 v0 P.length (P.map (Value.int .i64))) := h7
      clear i1 i7 i8 h7
      go_wp2_with fail
      refine Calls.mono (DQ.out wr (HS.out.below HB.out)) ?_
      rintro e w2 ⟨v, rfl, hb2, hown2⟩
      obtain ⟨pa, pc, hv, _⟩ := own_slice hown2
      have hs2 := hb2.size
      have c3 := (hb2.cell (p := ⟨w.heap.size, 0, none⟩) q1).trans i3
      have c4 := fun o => (hb2.frozen (p := ⟨w.heap.size + 1 + 1, o, none⟩) q2).trans (i4 o)
      have c5 := (hb2.cell (p := ⟨w.heap.size + 1 + 1, 0, none⟩) q2).trans i5
      have c6 := (hb2.cell (p := ⟨w.heap.size + 1 + 1, 1, none⟩) q2).trans i6
      have HOW : Hid ((w2.setCell ⟨w.heap.size + 1 + 1, 1, none⟩ v).ownsRow (w.heap.size + 1 + 1 + 1) 3 1 v Q.length (Q.map (Value.int .i64))) := owns_set (ownsRow_base hown2 i2) (fun k hk => by have := (hown2.lt k hk).1; omega)
      have HO1 : Hid ((w2.setCell ⟨w.heap.size + 1 + 1, 1, none⟩ v).ownsRow (w.heap.size + 1 + 1 + 1) 3 1 v0 P.length (P.map (Value.int .i64))) := owns_set (owns_below HO0.out hb2) (fun k hk => by have := (HO0.out.lt k hk).1; omega)
      have HB2 : Hid (Below w.heap.size w w2) := HB.out.trans (hb2.mono HB.out.size)
      clear hb2 hown2 i3 i4 i5 i6 HO0
      subst hv
      go_wp2
      go_roundg 0
      case measure => omega
      case rel =>
        refine ⟨2, by omega, by omega, by go_num, (show RB w a n c P Q 2 _ from ⟨HB2.out.setCell (by simp; omega) _, by simp; omega, ?_, fun o => ?_, v0, .slice pa Q.length pc, ?_, ?_, fun _ => HO1.out, fun _ => HOW.out⟩)⟩
        · go_simp
        · go_simp
        · go_simp
        · go_simp
    · have h7 := i7 (by omega)
      have h8 := i8 (by omega)
      obtain ⟨pa, pc, hv0, hints0, _⟩ := own_slice h7
      have HI0 : Hid (IntsAt wr pa P) := hints0
      have HO1 : Hid (wr.ownsRow (w.heap.size + 1 + 1 + 1) 3 1 v1 Q.length (Q.map (Value.int .i64))) := h8
      subst hv0
      clear i1 i7 i8 h7 h8 hints0 DP DQ
      obtain ⟨PL, hPL⟩ : ∃ PL, P.length = PL := ⟨_, rfl⟩
      rw [hPL] at i5 hPl
      have HPL : Hid (P.length = PL) := hPL
      clear hPL
      have t5 : ∀ o1 o2, ((wr.alloc o1).alloc o2).cell? ⟨w.heap.size + 1 + 1, 0, none⟩ = some (.slice pa PL pc) := fun o1 o2 => ((((Below.refl _ wr).alloc (Nat.le_refl _) o1).alloc (by simp) o2).cell (p := ⟨w.heap.size + 1 + 1, 0, none⟩) q2).trans i5
      go_wp2_with fail
      obtain ⟨V, rfl⟩ : ∃ V, V = wr := ⟨_, rfl⟩
      obtain ⟨W, hW⟩ : ∃ W, W = (V.alloc (.cells (madeCells #[.bool false] n) 4)).alloc (.cells #[.slice (some ⟨V.heap.size, 0, none⟩) n n] 95) := ⟨_, rfl⟩
      rw [← hW]
      have hz : W.heap.size = V.heap.size + 1 + 1 := by rw [hW]; simp
      have HBW : Hid (Below V.heap.size V W) := by rw [hW]; exact ((Below.refl _ _).alloc (Nat.le_refl _) _).alloc (by simp) _
      have d0 := (HBW.out.cell (p := ⟨w.heap.size, 0, none⟩) q1).trans i3
      have d5 := (HBW.out.cell (p := ⟨w.heap.size + 1 + 1, 0, none⟩) q2).trans i5
      have d6 := (HBW.out.cell (p := ⟨w.heap.size + 1 + 1, 1, none⟩) q2).trans i6
      have db : W.cell? ⟨V.heap.size + 1, 0, none⟩ = some (.slice (some ⟨V.heap.size, 0, none⟩) n n) := by rw [hW]; go_simp
      have HR0 : Hid (W.rowIs V.heap.size 4 n (fun i => .bool ((P.take 0).contains (i : Int)))) := by
        have h0 := World.rowIs_made V (.bool false) n 4
        have h1 := ((Below.refl (V.heap.size + 1) (V.alloc (.cells (madeCells #[.bool false] n) 4))).alloc (by simp) (.cells #[.slice (some ⟨V.heap.size, 0, none⟩) n n] 95)).block V.heap.size (by omega)
        rw [← hW] at h1
        exact (h0.of_block h1).congr (fun i _ => by simp)
      have HO2 : Hid (W.ownsRow (w.heap.size + 1 + 1 + 1) 3 1 v1 Q.length (Q.map (Value.int .i64))) := owns_below HO1.out HBW.out
      have HV1 : Hid (∀ k, v1.ownBlock = some k → k < V.heap.size ∧ w.heap.size + 1 + 1 + 1 ≤ k) := fun k hk => ⟨(HO1.out.lt k hk).2, (HO1.out.lt k hk).1⟩
      have HBO : Hid (Below w.heap.size w W) := HB.out.trans (HBW.out.mono HB.out.size)
      clear hW i3 i4 i5 i6 HO1
      go_loopg [29] PL (fun g s29 w3 => ∃ j : Nat, j ≤ PL ∧ PL - j ≤ g ∧ s29 = .int .i64 j ∧ Hid (Off (fun b => b = V.heap.size) W w3) ∧ Hid (w3.rowIs V.heap.size 4 n (fun i => .bool ((P.take j).contains (i : Int)))))
      case atStart => exact ⟨0, by omega, by omega, rfl, Off.refl _ _, HR0⟩
      case round =>
        obtain ⟨j, hj, hg2, rfl, O3, R3⟩ := hrel
        clear HR0
        have e0 := (O3.out.cell (p := ⟨w.heap.size, 0, none⟩) (by show w.heap.size < _; omega) (by show ¬ w.heap.size = _; omega)).trans d0
        have e6 := (O3.out.cell (p := ⟨w.heap.size + 1 + 1, 1, none⟩) (by show w.heap.size + 1 + 1 < _; omega) (by show ¬ w.heap.size + 1 + 1 = _; omega)).trans d6
        have eb := (O3.out.cell (p := ⟨V.heap.size + 1, 0, none⟩) (by show V.heap.size + 1 < _; omega) (by show ¬ V.heap.size + 1 = _; omega)).trans db
        have hz3 := O3.out.size
        by_cases hlt : j < PL
        · have hlt2 : (j : Int) < (PL : Int) := by omega
          obtain ⟨x, hx, hxn⟩ := PM.out j (by rw [HPL.out]; exact hlt)
          obtain ⟨xb, xo, rfl, hxc⟩ := HI0.out j (by rw [HPL.out]; exact hlt)
          have hxl : xb < V.heap.size := World.block_lt_of_cell? V ⟨xb, xo + j, none⟩ hxc
          have hxc3 : wr.cell? ⟨xb, xo + j, none⟩ = some (.int .i64 (x : Int)) := by
            rw [hx] at hxc
            exact (O3.out.cell (p := ⟨xb, xo + j, none⟩) (by show xb < _; omega) (by show ¬ xb = _; omega)).trans ((HBW.out.cell (p := ⟨xb, xo + j, none⟩) hxl).trans hxc)
          have hx2 : (x : Int) < (n : Int) := by omega
          have er := R3.out.cell hxn
          have ef := R3.out.frozen x
          have hrl := R3.out.lt
          have HT : Hid (∀ i : Nat, (P.take (j + 1)).contains (i : Int) = if i = x then true else (P.take j).contains (i : Int)) := fun i => contains_take P j i (by rw [HPL.out]; exact hlt) x hx
          clear hxc hx
          go_wp2
          go_roundg (PL - (j + 1))
          case measure => omega
          case rel =>
            refine ⟨j + 1, by omega, by omega, by go_num, O3.out.trans (show Off (fun b => b = V.heap.size) wr (wr.setCell ⟨V.heap.size, x, none⟩ (.bool true)) from off_setCell (X := fun b => b = V.heap.size) _ (show (fun b => b = V.heap.size) (Addr.block ⟨V.heap.size, x, none⟩) from rfl) _), (R3.out.set x (.bool true)).congr (fun i _ => ?_)⟩
            try dsimp only
            rw [HT.out i]
            by_cases e : i = x
            · rw [if_pos e, if_pos e]
            · rw [if_neg e, if_neg e]
        · have hj' : j = PL := by omega
          subst hj'
          have hpt : P.take j = P := by rw [← HPL.out]; exact List.take_length
          have R4 : Hid (wr.rowIs V.heap.size 4 n (fun i => .bool (P.contains (i : Int)))) := by have := R3.out; rw [hpt] at this; exact this
          have HO3 : Hid (wr.ownsRow (w.heap.size + 1 + 1 + 1) 3 1 v1 Q.length (Q.map (Value.int .i64))) := HO2.out.kept (row := some V.heap.size) ⟨O3.out.os, O3.out.tape, O3.out.output, O3.out.size, fun k hk hne => O3.out.block k hk (fun e => hne (by rw [e]))⟩ (by
            cases hv : v1.ownBlock with
            | none => exact Or.inl rfl
            | some k => right; intro e; have := (HV1.out k hv).1; simp at e; omega)
          have HB3 : Hid (Below w.heap.size w wr) := HBO.out.trans (O3.out.below HBO.out.size (fun k hk => by have := HB.out.size; omega))
          rcases HO3.out.2 with ⟨_, h0⟩ | ⟨g, cap, cur, hv, hgb, hcur, h3, h4, h5, h6⟩
          · exfalso
            rw [HQ0.out] at h0
            simp at h0
          · subst hv
            obtain ⟨_, _, _, _, G, hG, hGk⟩ := row_of_own HO3.out
            have hgl := (HV1.out g rfl).1
            have hg3 : w.heap.size + 1 + 1 + 1 ≤ g := hgb
            have DEL := deleteFunc_in 79 #[.pointer (some ⟨V.heap.size + 1, 0, none⟩), .pointer (some ⟨w.heap.size, 0, none⟩)] (outB S P) g Q.length cap Q G wr rfl h3 (by unfold maxLen at h4; omega) hG hGk (enters_of Try.func79 (by kernel_rfl) rfl) (fun y hy w4 h4' => by
              obtain ⟨x, rfl, hx⟩ := QM.out y hy
              have hb4 : Below w.heap.size w w4 := HB3.out.trans (h4'.below HB3.out.size (fun k hk => by omega))
              have := OUT.out x (P.contains (x : Int)) (V.heap.size + 1) V.heap.size w4 hx (HS.out.below hb4) ((h4'.cell (p := ⟨V.heap.size + 1, 0, none⟩) (World.block_lt_of_cell? _ _ eb) (by show ¬ V.heap.size + 1 = g; omega)).trans eb) ((h4'.cell (p := ⟨V.heap.size, x, none⟩) R4.out.lt (by show ¬ V.heap.size = g; omega)).trans (R4.out.cell hx)) ((h4'.cell (p := ⟨w.heap.size, 0, none⟩) (World.block_lt_of_cell? _ _ e0) (by show ¬ w.heap.size = g; omega)).trans e0)
              unfold outB
              rw [Int.toNat_natCast]
              exact this)
            have DL : Hid _ := DEL
            have FIN : Hid (∀ w', Off (fun b => b = g) wr w' → ∀ G', w'.rowIs g 3 cap G' → (∀ j, j < (flt (outB S P) Q).length → G' j = .int .i64 ((flt (outB S P) Q).getD j 0)) → Below w.heap.size w w' ∧ w'.ownsRow w.heap.size 3 1 (.slice (some ⟨g, 0, none⟩) (flt (outB S P) Q).length cap) (flt (outB S P) Q).length ((flt (outB S P) Q).map (Value.int .i64))) := fun w' ho G' hG' hGk' =>
              ⟨HB3.out.trans (ho.below HB3.out.size (fun k hk => by omega)), own_of_row hG' hGk' (Nat.le_trans (flt_le _ _) h3) h4 (by omega)⟩
            clear DEL hG hGk hcur h3 h4 h5 h6 hgb HO3
            generalize Q.length = QL at *
            go_wp2_with fail
            refine Calls.mono DL.out ?_
            rintro e w5 ⟨rfl, hoff, G', hG', hGk'⟩
            obtain ⟨f1, f2⟩ := FIN.out w5 hoff G' hG' hGk'
            have F1 : Hid _ := f1
            have F2 : Hid (w5.ownsRow w.heap.size 3 1 (.slice (some ⟨g, 0, none⟩) (flt (outB S P) Q).length cap) R.length (R.map (Value.int .i64))) := by rw [RF.out]; exact f2
            clear f1 f2 hoff hG' hGk'
            go_wp2
            go_ret
            exact ⟨_, rfl, F1.out, F2.out⟩
end Go.Proofs.Ytjlapfgghljidab
