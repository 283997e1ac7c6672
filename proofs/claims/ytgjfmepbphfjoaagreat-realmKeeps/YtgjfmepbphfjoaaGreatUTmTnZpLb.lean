/-
  The family of the laws' closed facts, reckoned.
-/
import Derived.Test.YtgjfmepbphfjoaaGreatUZaTl
import Derived.Test.YtgjfmepbphfjoaaGreatUTdTeSo
import Derived.BigRegion
import Derived.Test.YtgjfmepbphfjoaaGreatUXdUe
import Derived.Test.YtgjfmepbphfjoaaGreatUSaSbScBa
import Derived.Test.YtgjfmepbphfjoaaGreatULa
import Derived.Laws.AppendOwn
namespace Go.Proofs.YtgjfmepbphfjoaaGreat
open Go.RowKit

def SK : Nat → List Nd
  | 0 => List.replicate 6 unusedNd
  | k + 1 => (SK k).set k (madeNd (nd (SK k) k) k)

def S4 : List Nd := enterS (SK 3) 0 1 0
def S5 : List Nd := enterS S4 0 2 0

theorem sk_len : ∀ k, (SK k).length = 6
  | 0 => rfl
  | k + 1 => by simp only [SK, List.length_set]; exact sk_len k

theorem sk_facts : ∀ k, k < 3 → (freeB (nd (SK k) k) = true ∧ (nd (SK k) k).n = 0 ∧ (∀ i, i < k → freeB (nd (SK k) i) = false) ∧ (∀ i, i < 6 → (nd (SK k) i).ks.length ≤ 1000) ∧ checkE (SK k) = 0) := by
  intro k hk
  match k, hk with
  | 0, _ => decide
  | 1, _ => decide
  | 2, _ => decide

theorem sk3_check : tcheckE (SK 3) [(((0 : Nat) : Int), 1), (((1 : Nat) : Int), 1)] = 0 := by decide
theorem s4_check : tcheckE S4 [(((0 : Nat) : Int), 1), (((2 : Nat) : Int), 1), (((1 : Nat) : Int), 1)] = 0 := by decide
theorem s5_check : tcheckE S5 [(((0 : Nat) : Int), 1)] = 0 := by decide
theorem s5_check2 : tcheckE S5 [(((1 : Nat) : Int), 1), (((0 : Nat) : Int), 1)] = 0 := by decide
theorem s5_order : orderF S5 6 0 = [0, 2, 1] := by decide
theorem s3_fit : fitsB (SK 3) 1 0 = true := by decide
theorem s4_fit : fitsB S4 2 0 = true := by decide
theorem s5_fit : fitsB S5 0 1 = false := by decide
theorem s3_p : (nd (SK 3) 1).p = -1 := by decide
theorem s4_p : (nd S4 2).p = -1 := by decide
theorem s4_q : (nd S4 1).p = ((0 : Nat) : Int) := by decide
theorem s4_at : idx (nd S4 0).ks ((1 : Nat) : Int) = ((0 : Nat) : Int) := by decide
theorem s3_at : (nd (SK 3) 0).ks.length = 0 := by decide
theorem s4_len : S4.length = 6 := by decide
theorem s5_len : S5.length = 6 := by decide
theorem sk3_ks : ∀ i, i < (SK 3).length → (nd (SK 3) i).ks.length ≤ 1000 := by decide
theorem s4_ks : ∀ i, i < S4.length → (nd S4 i).ks.length ≤ 1000 := by decide
theorem s5_ks : ∀ i, i < S5.length → (nd S5 i).ks.length ≤ 1000 := by decide
end Go.Proofs.YtgjfmepbphfjoaaGreat

namespace Go.Proofs.YtgjfmepbphfjoaaGreat
open Go.RowKit

/-- The loop's state: the store so far, the hands so far. -/
def FamI (W2 : World) (b3 bh : Nat) (k : Nat) (wr : World) : Prop :=
  Off (fun b => b = b3 ∨ b = bh) W2 wr ∧ (∃ g, wr.cell? ⟨b3, 0, none⟩ = some (.slice (some ⟨g, 0, none⟩) 6 6) ∧ NdsAt wr (some ⟨g, 0, none⟩) (SK k)) ∧
  (∀ i, i < 3 → wr.cell? ⟨bh, i * 2, none⟩ = some (.int .i64 (if i < k then (i : Int) else 0)) ∧ wr.cell? ⟨bh, i * 2 + 1, none⟩ = some (.int .i64 (if i < k then 1 else 0))) ∧
  (∀ o, wr.frozen? ⟨b3, o, none⟩ = false) ∧ (∀ o, wr.frozen? ⟨bh, o, none⟩ = false)

theorem addr_block {b b' o o' : Nat} (h : b ≠ b') : (⟨b, o, none⟩ : Addr) ≠ ⟨b', o', none⟩ := fun e => h (congrArg Addr.block e)
theorem addr_off {b b' o o' : Nat} (h : o ≠ o') : (⟨b, o, none⟩ : Addr) ≠ ⟨b', o', none⟩ := fun e => h (congrArg Addr.off e)

theorem FamI.step {W2 wr w4 : World} {b3 bh k g' : Nat} (h : FamI W2 b3 bh k wr) (hne : b3 ≠ bh) (hk : k < 3) (h3 : b3 < wr.heap.size) (hbh : bh < wr.heap.size) (hb : Below wr.heap.size wr w4) (hg : wr.heap.size ≤ g') (hS : ∀ w3 : World, (∀ b, g' ≤ b → w3.heap[b]? = w4.heap[b]?) → NdsAt w3 (some ⟨g', 0, none⟩) (SK (k + 1))) :
    FamI W2 b3 bh (k + 1) (((w4.setCell ⟨b3, 0, none⟩ (.slice (some ⟨g', 0, none⟩) 6 6)).setCell ⟨bh, k * 2, none⟩ (.int .i64 k)).setCell ⟨bh, k * 2 + 1, none⟩ (.int .i64 1)) := by
  obtain ⟨hoff, ⟨g, c3, _⟩, hh, f3, fh⟩ := h
  have c34 := (hb.cell (p := ⟨b3, 0, none⟩) h3).trans c3
  refine ⟨?_, ⟨g', ?_, ?_⟩, fun i hi => ?_, fun o => ?_, fun o => ?_⟩
  · exact (((hoff.trans (Off.of_below hb)).trans (off_setCell _ (Or.inl rfl) _)).trans (off_setCell _ (Or.inr rfl) _)).trans (off_setCell _ (Or.inr rfl) _)
  · rw [World.cell?_setCell_other _ _ _ _ (addr_block (Ne.symm hne)), World.cell?_setCell_other _ _ _ _ (addr_block (Ne.symm hne))]
    exact World.cell?_setCell_same _ _ _ c34
  · refine hS _ (fun b hbg => ?_)
    rw [Below.heap_setCell _ _ _ _ (by show b ≠ bh; omega), Below.heap_setCell _ _ _ _ (by show b ≠ bh; omega), Below.heap_setCell _ _ _ _ (by show b ≠ b3; omega)]
  · obtain ⟨x0, x1⟩ := hh i hi
    have y0 := (hb.cell (p := ⟨bh, i * 2, none⟩) hbh).trans x0
    have y1 := (hb.cell (p := ⟨bh, i * 2 + 1, none⟩) hbh).trans x1
    have z0 : (w4.setCell ⟨b3, 0, none⟩ (.slice (some ⟨g', 0, none⟩) 6 6)).cell? ⟨bh, i * 2, none⟩ = _ := (World.cell?_setCell_other _ _ _ _ (addr_block hne)).trans y0
    have z1 : (w4.setCell ⟨b3, 0, none⟩ (.slice (some ⟨g', 0, none⟩) 6 6)).cell? ⟨bh, i * 2 + 1, none⟩ = _ := (World.cell?_setCell_other _ _ _ _ (addr_block hne)).trans y1
    by_cases e : i = k
    · subst e
      rw [if_pos (by omega), if_pos (by omega)]
      constructor
      · rw [World.cell?_setCell_other _ _ _ _ (by simp)]
        exact World.cell?_setCell_same _ _ _ z0
      · refine World.cell?_setCell_same _ _ _ (u := .int .i64 (if i < i then 1 else 0)) ?_
        rw [World.cell?_setCell_other _ _ _ _ (by simp)]
        exact z1
    · have e1 : (if i < k + 1 then (i : Int) else 0) = if i < k then (i : Int) else 0 := by
        by_cases h : i < k
        · rw [if_pos h, if_pos (by omega)]
        · rw [if_neg h, if_neg (by omega)]
      have e2 : (if i < k + 1 then (1 : Int) else 0) = if i < k then (1 : Int) else 0 := by
        by_cases h : i < k
        · rw [if_pos h, if_pos (by omega)]
        · rw [if_neg h, if_neg (by omega)]
      rw [e1, e2]
      constructor
      · rw [World.cell?_setCell_other _ _ _ _ (addr_off (by omega)), World.cell?_setCell_other _ _ _ _ (addr_off (by omega))]
        exact z0
      · rw [World.cell?_setCell_other _ _ _ _ (addr_off (by omega)), World.cell?_setCell_other _ _ _ _ (addr_off (by omega))]
        exact z1
  · rw [World.frozen?_setCell, World.frozen?_setCell, World.frozen?_setCell]
    exact (hb.frozen (p := ⟨b3, o, none⟩) h3).trans (f3 o)
  · rw [World.frozen?_setCell, World.frozen?_setCell, World.frozen?_setCell]
    exact (hb.frozen (p := ⟨bh, o, none⟩) hbh).trans (fh o)

theorem heap_drew (X : World) : X.drew.heap = X.heap := rfl

theorem heap7 (W : World) (s : Nat) (v0 v1 v2 v3 v4 v5 v6 : Value) (b : Nat) (h0 : b ≠ s) (h1 : b ≠ s + 1) :
    ((((((((W.setCell ⟨s, 0, none⟩ v0).setCell ⟨s + 1, 0, none⟩ v1).setCell ⟨s + 1, 1, none⟩ v2).setCell ⟨s + 1, 2, none⟩ v3).setCell ⟨s + 1, 3, none⟩ v4).setCell ⟨s + 1, 4, none⟩ v5).setCell ⟨s + 1, 5, none⟩ v6).drew).heap[b]? = W.heap[b]? := by
  rw [heap_drew]
  rw [Below.heap_setCell _ _ _ _ h1, Below.heap_setCell _ _ _ _ h1, Below.heap_setCell _ _ _ _ h1, Below.heap_setCell _ _ _ _ h1, Below.heap_setCell _ _ _ _ h1, Below.heap_setCell _ _ _ _ h1, Below.heap_setCell _ _ _ _ h0]

end Go.Proofs.YtgjfmepbphfjoaaGreat

namespace Go.Proofs.YtgjfmepbphfjoaaGreat
open Go.RowKit

theorem ownsRow_base {w : World} {B B' e size n : Nat} {v : Value} {xs : List Value} (h : w.ownsRow B e size v n xs) (hB : B' ≤ B) : w.ownsRow B' e size v n xs := by
  obtain ⟨h1, h2⟩ := h
  refine ⟨h1, ?_⟩
  rcases h2 with h2 | ⟨g, cap, cur, h3, h4, h5⟩
  · exact Or.inl h2
  · exact Or.inr ⟨g, cap, cur, h3, Nat.le_trans hB h4, h5⟩

theorem infoBool : (Tryz.prog.info? 4).map (fun i => (i.zero, i.size, i.bytes)) = some (some (.bool false), 1, 1) := by kernel_rfl

theorem makeBools (n : Nat) (hn : n ≤ 24) (w : World) : (Instr.makeSlice 139 (.int .i64 (n : Int)) (.int .i64 (n : Int))).run Tryz.prog w = .ok (.slice (some ⟨w.heap.size, 0, none⟩) n n) (w.alloc (.cells (madeCells #[.bool false] n) 4)) :=
  run_make_row' (P := Tryz.prog) 139 4 (.bool false) 1 Tryz.underlying139 infoBool rfl .i64 .i64 n (by omega) (by omega) w

theorem row_of_own {w : World} {B g n cap : Nat} {ks : List Int} (h : w.ownsRow B 3 1 (.slice (some ⟨g, 0, none⟩) n cap) n (ks.map (Value.int .i64))) : B ≤ g ∧ n ≤ cap ∧ cap ≤ maxLen ∧ ks.length = n ∧ ∃ G, w.rowIs g 3 cap G ∧ ∀ j, j < n → G j = .int .i64 (ks.getD j 0) := by
  obtain ⟨hl, h⟩ := h
  rw [List.length_map, Nat.mul_one] at hl
  rcases h with ⟨h, _⟩ | ⟨g', cap', cur, e, h1, h2, h3, h4, h5, h6⟩
  · cases h
  · cases e
    rw [Nat.mul_one] at h5 h6
    refine ⟨h1, h3, h4, hl, fun j => cur[j]?.getD undef, ⟨cur, h2, h5, fun i hi => ?_⟩, fun j hj => ?_⟩
    · show cur[i]? = some (cur[i]?.getD undef)
      rw [Array.getElem?_eq_getElem (by omega)]
      rfl
    · have h7 : (cur.toList.take n)[j]? = (ks.map (Value.int .i64))[j]? := by rw [h6]
      rw [List.getElem?_take, if_pos hj, List.getElem?_map, List.getElem?_eq_getElem (l := ks) (by omega)] at h7
      show cur[j]?.getD undef = _
      rw [← Array.getElem?_toList, h7, getD_elem ks 0 (by omega)]
      rfl

theorem own_slice {w : World} {B : Nat} {v : Value} {ks : List Int} (h : w.ownsRow B 3 1 v ks.length (ks.map (Value.int .i64))) : ∃ pa pc, v = .slice pa ks.length pc ∧ IntsAt w pa ks ∧ (∀ k, v.ownBlock = some k → B ≤ k ∧ k < w.heap.size) := by
  have hlt := h.lt
  rcases h.2 with ⟨e, e0⟩ | ⟨g, cap, cur, e, _⟩
  · have hk : ks = [] := List.length_eq_zero_iff.1 e0
    subst hk
    exact ⟨none, 0, e, fun i hi => absurd hi (Nat.not_lt_zero _), hlt⟩
  · subst e
    obtain ⟨_, h2, _, _, G, hG, hGk⟩ := row_of_own h
    exact ⟨some ⟨g, 0, none⟩, cap, rfl, ints_of_row hG h2 hGk, hlt⟩

end Go.Proofs.YtgjfmepbphfjoaaGreat

namespace Go.Proofs.YtgjfmepbphfjoaaGreat
open Go.RowKit

def notMarkB (S : List Nd) (mk : Int) (x : Int) : Bool := !decide ((nd S x.toNat).m = mk)
def markedF (S : List Nd) (H : Nat) (mk : Int) : List Int := flt (notMarkB S mk) (nd S H).ks

set_option maxRecDepth 100000 in
set_option maxHeartbeats 4000000 in
theorem marked_any (a : Option Addr) (c : Nat) (S : List Nd) (H : Nat) (mk : Int) (w : World) (hH : H < S.length) (hl : (nd S H).ks.length ≤ 1000) (hp : ∀ y ∈ (nd S H).ks, ∃ x : Nat, y = x ∧ x < S.length) (hS : NdsAt w a S) :
    Calls Tryz.prog 150 #[.agg #[.slice a S.length c], .int .i64 (H : Int), .int .i64 mk] w fun e w' => ∃ v, e = .returned v ∧ Below w.heap.size w w' ∧ w'.ownsRow w.heap.size 3 1 v (markedF S H mk).length ((markedF S H mk).map (Value.int .i64)) := by
  obtain ⟨i0, hi0, hz0, hz1, hz2⟩ := info_parts info3
  have HS : Hid (NdsAt w a S) := hS
  have R0 : Hid (markedF S H mk = flt (notMarkB S mk) (nd S H).ks) := (rfl : markedF S H mk = _)
  have PL : Hid (∀ y ∈ (nd S H).ks, ∃ x : Nat, y = x ∧ x < S.length) := hp
  obtain ⟨nb0, no0, ea0, _, _, _, _, _, ⟨ka, kc, c5, hks⟩, _, _⟩ := hS H hH
  subst ea0
  have HI : Hid (IntsAt w ka (nd S H).ks) := hks
  clear hS hp hks
  generalize markedF S H mk = RES at *
  generalize (nd S H).ks = P at *
  obtain ⟨m, hm⟩ : ∃ m, P.length = m := ⟨_, rfl⟩
  have HM : Hid (P.length = m) := hm
  rw [hm] at hl c5
  obtain ⟨n, hn⟩ : ∃ n, S.length = n := ⟨_, rfl⟩
  have HN : Hid (S.length = n) := hn
  rw [hn] at hH PL ⊢
  have hH2 : (H : Int) < (n : Int) := by omega
  have hnb : nb0 < w.heap.size := World.block_lt_of_cell? _ _ c5
  clear hn hm
  go_enter Tryz.func150, Tryz.ntmps150
  go_wp2_with fail
  go_loopg [7, 17] m (fun g s7 s17 wr => ∃ (i : Nat) (l : List Int), i ≤ m ∧ m - i ≤ g ∧ s17 = .int .i64 i ∧ l.length ≤ i ∧ Hid (Below w.heap.size w wr) ∧ wr.cell? ⟨w.heap.size, 0, none⟩ = some (.slice (some ⟨nb0, no0, none⟩) n c) ∧ w.heap.size + 1 ≤ wr.heap.size ∧ Hid (wr.ownsRow (w.heap.size + 1) 3 1 s7 l.length (l.map (Value.int .i64))) ∧ Hid (l = flt (notMarkB S mk) (P.take i)))
  case atStart => exact ⟨0, [], by omega, by omega, rfl, by simp, (Below.refl _ _).alloc (Nat.le_refl _) _, by go_simp, by simp, World.ownsRow_nil _ _ _ _, (by simp [flt] : ([] : List Int) = flt (notMarkB S mk) (P.take 0))⟩
  case round =>
    obtain ⟨i, l, hi, hg, rfl, hli, HB, cs, hsz, HO, HE⟩ := hrel
    obtain ⟨qa, qc, hv, _⟩ := own_slice HO.out
    subst hv
    obtain ⟨ln, hln⟩ : ∃ y, l.length = y := ⟨_, rfl⟩
    have HLN : Hid (l.length = ln) := hln
    rw [hln] at HO hli ⊢
    clear hln
    by_cases hlt : i < m
    · obtain ⟨y, hy, hyn⟩ := PL.out (P.getD i 0) (by rw [getD_elem P 0 (by rw [HM.out]; exact hlt)]; exact List.getElem_mem _)
      obtain ⟨pb, po, ep, hpc⟩ := (HI.out.below HB.out) i (by rw [HM.out]; exact hlt)
      subst ep
      rw [hy] at hpc
      obtain ⟨nb, no, ea, _, _, _, c3, _, _, _, _⟩ := (HS.out.below HB.out) y (by rw [HN.out]; exact hyn)
      cases ea
      have hy2 : (y : Int) < (n : Int) := by omega
      have hi2 : (i : Int) < (m : Int) := by omega
      have NX : Hid (flt (notMarkB S mk) (P.take (i + 1)) = l ++ (if (nd S y).m = mk then [(y : Int)] else [])) := by
        have e := flt_succ (notMarkB S mk) P i (by rw [HM.out]; exact hlt)
        rw [hy] at e
        show flt _ _ = _
        rw [e, ← HE.out]
        unfold notMarkB
        rw [Int.toNat_natCast]
        by_cases h : (nd S y).m = mk <;> simp [h]
      clear HE hy c5
      generalize (nd S y).m = hh at *
      by_cases hh1 : hh = mk
      · subst hh1
        have E2 : Hid (l ++ [(y : Int)] = flt (notMarkB S hh) (P.take (i + 1))) := (by rw [NX.out, if_pos rfl] : l ++ [(y : Int)] = flt (notMarkB S hh) (P.take (i + 1)))
        have OB : Hid (∀ k, (Value.slice qa ln qc).ownBlock = some k → w.heap.size + 1 ≤ k) := fun k hk => (HO.out.lt k hk).1
        have hln1 : ln ≤ 1000 := by omega
        clear NX
        go_wp2_with (at_builtin; refine wpList_append_own _ rfl _ _ 29 rfl (w.heap.size + 1) 3 i0 (.int .i64 0) 1 8 Tryz.underlying29 hi0 hz0 hz1 hz2 rfl (by decide) _ _ _ rfl (HO.out.alloc _) ⟨wr.heap.size, 0, none⟩ 1 1 [.int .i64 (y : Int)] rfl rfl ?c1 ?c2 ?c3 ?c4 ?c5 ?_)
        case c2 => first | rfl | (intro u hu; simp at hu; subst hu; rfl) | simp
        case c3 => unfold maxLen; omega
        case c4 => omega
        case c5 => first | omega | (simp; omega)
        case c1 => first | (go_simp; done) | (intro j u hj; match j, hj with | 0, hj => (cases hj; go_simp) | (j + 1), hj => simp at hj)
        intro v' w2 hown' hgrow _
        have hb2 : Below (w.heap.size + 1) wr w2 := ((Below.refl _ wr).alloc (by omega) _).grown hgrow (by simp; omega) (fun k hk => OB.out k hk)
        have HB2 : Hid (Below w.heap.size w w2) := HB.out.trans (hb2.mono (by omega))
        have cs2 := (hb2.cell (p := ⟨w.heap.size, 0, none⟩) (by show w.heap.size < _; omega)).trans cs
        have HO2 : Hid (w2.ownsRow (w.heap.size + 1) 3 1 v' (l ++ [(y : Int)]).length ((l ++ [(y : Int)]).map (Value.int .i64))) := by
          have h2 := hown'
          rw [show (l ++ [(y : Int)]).length = ln + 1 by simp [HLN.out], List.map_append]
          exact h2
        have hs2 : w.heap.size + 1 ≤ w2.heap.size := Nat.le_trans hsz hb2.size
        clear hown' hgrow hb2 cs HO
        go_wp2_with fail
        go_roundg (m - (i + 1))
        case measure => omega
        case rel => exact ⟨i + 1, l ++ [(y : Int)], by omega, by omega, by go_num, by simp [HLN.out]; omega, HB2, cs2, hs2, HO2, E2⟩
      · have hhb : (hh == mk) = false := beq_eq_false_iff_ne.2 hh1
        have hhd : decide (hh = mk) = false := decide_eq_false hh1
        have E2 : Hid (l = flt (notMarkB S mk) (P.take (i + 1))) := (by rw [NX.out, if_neg hh1]; simp : l = flt (notMarkB S mk) (P.take (i + 1)))
        have HO2 : Hid (wr.ownsRow (w.heap.size + 1) 3 1 (.slice qa ln qc) l.length (l.map (Value.int .i64))) := (by rw [HLN.out]; exact HO.out : wr.ownsRow (w.heap.size + 1) 3 1 (.slice qa ln qc) l.length (l.map (Value.int .i64)))
        clear NX HO
        go_wp2
        go_roundg (m - (i + 1))
        case measure => omega
        case rel => exact ⟨i + 1, l, by omega, by omega, by go_num, by rw [HLN.out]; omega, HB, cs, hsz, HO2, E2⟩
    · have hie : i = m := by omega
      subst hie
      have e := HE.out
      rw [List.take_of_length_le (by rw [HM.out]; omega), ← R0.out] at e
      have OW : Hid (wr.ownsRow w.heap.size 3 1 (.slice qa ln qc) RES.length (RES.map (Value.int .i64))) := by
        have h2 := ownsRow_base HO.out (show w.heap.size ≤ w.heap.size + 1 by omega)
        rw [← HLN.out, e] at h2
        rw [← HLN.out, e]
        exact h2
      clear HE e HO
      go_wp2
      go_ret
      exact ⟨_, rfl, HB.out, OW.out⟩
end Go.Proofs.YtgjfmepbphfjoaaGreat
