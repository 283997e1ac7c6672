/-
  The slots of a root as the program finds them: slotsOf.
-/
import Derived.Test.YtlgnapdhnlhkpaaULdRaRbTo
import Derived.Test.YtlgnapdhnlhkpaaURg
import Derived.Test.YtlgnapdhnlhkpaaUZpLbRzTm
import Derived.Laws.AppendOwn
namespace Go.Proofs.Ytlgnapdhnlhkpaa
open Go.RowKit

theorem info41 : (Try.prog.info? 41).map (fun i => (i.zero, i.size, i.bytes)) = some (some (.agg #[.int .i64 0, .int .i64 0, .slice none 0 0]), 3, 40) := by kernel_rfl

def scell (s : Slt) (v : Value) : List Value := [.int .i64 s.pl, .int .i64 s.num, v]
def scells (L : List Slt) (K : Nat → Value) : List Value := (List.range L.length).flatMap fun i => scell (slt L i) (K i)

theorem slt_left {L : List Slt} {s : Slt} {i : Nat} (h : i < L.length) : slt (L ++ [s]) i = slt L i := by
  rw [slt_elem (by simp; omega), slt_elem h, List.getElem_append_left h]
theorem slt_last (L : List Slt) (s : Slt) : slt (L ++ [s]) L.length = s := by
  rw [slt_elem (by simp)]
  simp

theorem scells_snoc (L : List Slt) (K : Nat → Value) (s : Slt) (v : Value) : scells L K ++ scell s v = scells (L ++ [s]) (fun i => if i = L.length then v else K i) := by
  unfold scells
  rw [List.length_append, List.length_singleton, List.range_succ, List.flatMap_append]
  congr 1
  · refine flatMap_congr' (fun x hx => ?_)
    have hlt := List.mem_range.1 hx
    have : x ≠ L.length := by omega
    simp only [if_neg this]
    rw [slt_left hlt]
  · simp [slt_last]

/-- A row of slots of the call's own, and the rows of what is given. -/
def OwnS (B : Nat) (L : List Slt) (K : Nat → Value) (v : Value) (w : World) : Prop :=
  w.ownsRow B 41 3 v L.length (scells L K) ∧ ∀ i, i < L.length → w.ownsRow B 3 1 (K i) (slt L i).gv.length ((slt L i).gv.map (Value.int .i64))

theorem OwnS.other {B : Nat} {L : List Slt} {K : Nat → Value} {v : Value} {w w' : World} (h : OwnS B L K v w) (hb : ∀ b, B ≤ b → b < w.heap.size → w'.heap[b]? = w.heap[b]?) : OwnS B L K v w' :=
  ⟨owns_block h.1 (fun k hk => hb k (h.1.lt k hk).1 (h.1.lt k hk).2), fun i hi => owns_block (h.2 i hi) (fun k hk => hb k ((h.2 i hi).lt k hk).1 ((h.2 i hi).lt k hk).2)⟩

theorem OwnS.below {B : Nat} {L : List Slt} {K : Nat → Value} {v : Value} {w w' : World} (h : OwnS B L K v w) (hb : Below w.heap.size w w') : OwnS B L K v w' := h.other (fun b _ hlt => hb.block b hlt)

theorem OwnS.base {B B' : Nat} {L : List Slt} {K : Nat → Value} {v : Value} {w : World} (h : OwnS B L K v w) (hB : B' ≤ B) : OwnS B' L K v w := ⟨ownsRow_baseL h.1 hB, fun i hi => ownsRow_baseL (h.2 i hi) hB⟩

theorem scells_len (L : List Slt) (K : Nat → Value) : ∀ q, ((List.range q).flatMap fun i => scell (slt L i) (K i)).length = q * 3
  | 0 => rfl
  | q + 1 => by rw [List.range_succ, List.flatMap_append, List.length_append, scells_len L K q]; simp [scell]; omega

theorem scells_at (L : List Slt) (K : Nat → Value) {i j : Nat} (hj : j < 3) : ∀ {q : Nat}, i < q → ((List.range q).flatMap fun i => scell (slt L i) (K i))[i * 3 + j]? = (scell (slt L i) (K i))[j]?
  | 0, hi => by omega
  | q + 1, hi => by
    rw [List.range_succ, List.flatMap_append]
    by_cases e : i < q
    · rw [List.getElem?_append_left (by rw [scells_len]; omega)]
      exact scells_at L K hj e
    · have : i = q := by omega
      subst this
      rw [List.getElem?_append_right (by rw [scells_len]; omega), scells_len, show i * 3 + j - i * 3 = j by omega]
      simp

theorem OwnS.slts {B : Nat} {L : List Slt} {K : Nat → Value} {v : Value} {w : World} (h : OwnS B L K v w) : ∃ a c, v = .slice a L.length c ∧ SltsAt w a L := by
  obtain ⟨hm, hk⟩ := h
  have hm' := hm
  obtain ⟨hl, h⟩ := hm
  rcases h with ⟨rfl, h0⟩ | ⟨g, cap, cur, rfl, hb, hg, h1, h2, h3, h4⟩
  · exact ⟨none, 0, by rw [h0], fun i hi => by omega⟩
  · refine ⟨some ⟨g, 0, none⟩, cap, rfl, fun i hi => ⟨g, 0, rfl, ?_⟩⟩
    have hc : ∀ j, j < 3 → w.cell? ⟨g, i * 3 + j, none⟩ = (scell (slt L i) (K i))[j]? := fun j hj => by
      rw [← scells_at L K hj hi]
      exact hm'.cellAt (i * 3 + j) (by omega)
    obtain ⟨sa, sc, e1, e2⟩ := ints_own (hk i hi)
    rw [Nat.zero_add]
    refine ⟨hc 0 (by omega), hc 1 (by omega), sa, sc, ?_, e2⟩
    rw [hc 2 (by omega), e1]
    rfl

theorem OwnS.step {wr wp w3 : World} {B : Nat} {L : List Slt} {K : Nat → Value} {v v1 v2 : Value} {s : Slt} {o3 : Obj} (I : OwnS B L K v wr) (hB : B ≤ wr.heap.size) (hs : wr.heap.size ≤ wp.heap.size)
    (e : ∀ k, k < wr.heap.size → wp.heap[k]? = wr.heap[k]?) (own1 : wp.ownsRow wr.heap.size 3 1 v1 s.gv.length (s.gv.map (Value.int .i64)))
    (h3 : (wp.alloc o3).grownBy w3 v.ownBlock) (own3 : w3.ownsRow B 41 3 v2 (L.length + 1) (scells L K ++ scell s v1)) :
    OwnS B (L ++ [s]) (fun i => if i = L.length then v1 else K i) v2 w3 := by
  obtain ⟨hm, hk⟩ := I
  have e3 : ∀ k, k < wp.heap.size → v.ownBlock ≠ some k → w3.heap[k]? = wp.heap[k]? := fun k hk hk2 =>
    (h3.block k (by simp; omega) (fun e => hk2 e.symm)).trans (Below.heap_alloc _ _ _ hk)
  refine ⟨?_, fun i hi => ?_⟩
  · rw [← scells_snoc, List.length_append, List.length_singleton]
    exact own3
  · rw [List.length_append, List.length_singleton] at hi
    by_cases ei : i = L.length
    · subst ei
      simp only [if_true]
      rw [slt_last]
      refine owns_block (ownsRow_baseL own1 hB) (fun k hk => ?_)
      have hl := own1.lt k hk
      exact e3 k hl.2 (fun ek => by have := (hm.lt k ek).2; omega)
    · simp only [if_neg ei]
      have hi' : i < L.length := by omega
      rw [slt_left hi']
      have hkr := hk i hi'
      refine owns_block hkr (fun k hk => ?_)
      have hl := hkr.lt k hk
      exact (e3 k (by omega) (owns_apart hkr hm (by decide) k hk)).trans (e k hl.2)

theorem news3Le {W : World} {b : Nat} {s : Slt} {v : Value} (c0 : W.cell? ⟨b, 0, none⟩ = some (.int .i64 s.pl)) (c1 : W.cell? ⟨b, 1, none⟩ = some (.int .i64 s.num)) (c2 : W.cell? ⟨b, 2, none⟩ = some v) : ∀ j u, (scell s v)[j]? = some u → W.cell? ((⟨b, 0, none⟩ : Addr).add j) = some u := fun j u hj => by
  unfold scell at hj
  rw [Addr.add_lit]
  match j, hj with
  | 0, hj => cases hj; exact c0
  | 1, hj => cases hj; exact c1
  | 2, hj => cases hj; exact c2

theorem one3Le {s : Slt} {a : Option Addr} {n c : Nat} : ∀ u ∈ scell s (.slice a n c), u.oneCell' = true := fun u hu => by
  unfold scell at hu
  simp at hu
  rcases hu with rfl | rfl | rfl <;> rfl

set_option maxRecDepth 100000 in
set_option maxHeartbeats 1000000 in
theorem slotsOf_no (a : Option Addr) (c : Nat) (S : List Nd) (H : Int) (w : World) (hN : S.length ≤ 9223372036854775807) (hS : NdsAt w a S) (hr : rootE S H = -1) :
    Calls Try.prog 22 #[.agg #[.slice a S.length c], .int .i64 H] w fun e w' => e = .returned (.slice none 0 0) ∧ Below w.heap.size w w' := by
  have d := fun (W : World) (hW : NdsAt W a S) => rootOf_any a c S H W hN hW
  rw [hr] at d
  have D : Hid _ := d
  have HS : Hid (NdsAt w a S) := hS
  clear d hS hr
  generalize S.length = n at *
  go_enter Try.func22, Try.ntmps22
  go_wp2_with fail
  refine Calls.mono (D.out _ (HS.out.below ((Below.refl _ _).alloc (Nat.le_refl _) _))) ?_
  rintro e w1 ⟨rfl, hb⟩
  have HB1 : Hid (Below w.heap.size w w1) := ((Below.refl _ _).alloc (Nat.le_refl _) _).trans (hb.mono (by simp))
  clear hb
  go_wp2_with fail
  go_ret
  exact ⟨rfl, HB1.out⟩
end Go.Proofs.Ytlgnapdhnlhkpaa

namespace Go.Proofs.Ytlgnapdhnlhkpaa
open Go.RowKit

theorem own_below {w w' : World} {B : Nat} {v : Value} {l : List Int} (h : w.ownsRow B 3 1 v l.length (l.map (Value.int .i64))) (hb : Below w.heap.size w w') : w'.ownsRow B 3 1 v l.length (l.map (Value.int .i64)) :=
  h.kept (row := none) ⟨hb.os, hb.tape, hb.output, hb.size, fun k hk _ => hb.block k hk⟩ (by
    cases hv : v.ownBlock with
    | none => exact Or.inl rfl
    | some k => exact Or.inr (fun e => by cases e))

set_option maxRecDepth 100000 in
set_option maxHeartbeats 4000000 in
theorem rLine_any (a : Option Addr) (c : Nat) (S : List Nd) (k : Int) (w : World) (hN : S.length ≤ 24) (hS : NdsAt w a S) :
    Calls Try.prog 16 #[.agg #[.slice a S.length c], .int .i64 k] w fun e w' => ∃ v, e = .returned v ∧ Below w.heap.size w w' ∧ w'.ownsRow w.heap.size 3 1 v (lineF S (S.length + 1) k).length ((lineF S (S.length + 1) k).map (Value.int .i64)) := by
  obtain ⟨i0, hi0, hz0, hz1, hz2⟩ := info_parts info3
  have HS : Hid (NdsAt w a S) := hS
  have LF : Hid (∀ f (y : Nat), y < S.length → lineF S (f + 1) (y : Int) = (y : Int) :: lineF S f (rightUnder (nd S y))) := fun f y hy => by rw [lineF, if_pos (isPl_nat.2 hy), Int.toNat_natCast]
  have LN : Hid (∀ f (x : Int), ¬ (0 ≤ x ∧ x < (S.length : Int)) → lineF S f x = []) := fun f x hx => by
    cases f with
    | zero => rfl
    | succ f =>
      rw [lineF, if_neg]
      intro h
      have h2 : 0 ≤ x ∧ x ≤ (S.length : Int) - 1 := of_decide_eq_true h
      exact hx (by omega)
  obtain ⟨L0, hL0⟩ : ∃ l, lineF S (S.length + 1) k = l := ⟨_, rfl⟩
  rw [hL0]
  have E0 : Hid (L0 = [] ++ lineF S (S.length + 1 - 0) k) := (by rw [← hL0]; rfl : L0 = [] ++ lineF S (S.length + 1 - 0) k)
  clear hS hL0
  obtain ⟨n, hn⟩ : ∃ n, S.length = n := ⟨_, rfl⟩
  have HN : Hid (S.length = n) := hn
  rw [hn] at hN E0 LF LN ⊢
  clear hn
  go_enter Try.func16, Try.ntmps16
  go_wp2_with fail
  go_loopg [1, 5] (n + 1) (fun g s1 s5 wr => ∃ (j : Nat) (x : Int) (l : List Int), j ≤ n + 1 ∧ (n + 1) - j ≤ g ∧ s1 = .int .i64 x ∧ l.length = j ∧ Hid (Below w.heap.size w wr) ∧ wr.cell? ⟨w.heap.size, 0, none⟩ = some (.slice a n c) ∧ w.heap.size < wr.heap.size ∧ Hid (wr.ownsRow (w.heap.size + 1) 3 1 s5 l.length (l.map (Value.int .i64))) ∧ Hid (L0 = l ++ lineF S (n + 1 - j) x))
  case atStart => exact ⟨0, k, [], by omega, by omega, rfl, rfl, (Below.refl _ _).alloc (Nat.le_refl _) _, by go_simp, by simp, World.ownsRow_nil _ _ _ _, E0⟩
  case round =>
    obtain ⟨j, x, l, hj, hg, rfl, hl, HB, cs, hsz, HO, HE⟩ := hrel
    obtain ⟨pa, pc, hv, _⟩ := own_slice HO.out
    subst hv
    clear E0
    obtain ⟨ln, hln⟩ : ∃ y, l.length = y := ⟨_, rfl⟩
    have HLN : Hid (l.length = ln) := hln
    rw [hln]
    have hlj : ln = j := by omega
    subst hlj
    have EXIT : Hid (lineF S (n + 1 - ln) x = [] → wr.ownsRow w.heap.size 3 1 (.slice pa ln pc) L0.length (L0.map (Value.int .i64))) := fun h => by
      have e := HE.out
      rw [h, List.append_nil] at e
      rw [e]
      have h2 := ownsRow_base HO.out (Nat.le_succ _)
      rw [hln] at h2
      rw [hln]
      exact h2
    have OWN : Hid (wr.ownsRow (w.heap.size + 1) 3 1 (.slice pa ln pc) ln (l.map (Value.int .i64))) := by have h2 := HO.out; rw [hln] at h2; exact h2
    clear hl hln HO
    by_cases hx : 0 ≤ x ∧ x < (n : Int)
    · obtain ⟨y, rfl⟩ : ∃ y : Nat, x = y := ⟨x.toNat, by omega⟩
      have hy : y < n := by omega
      obtain ⟨hx0, hx1⟩ := hx
      have b1 : decide ((0 : Int) ≤ (y : Int)) = true := decide_eq_true hx0
      have b2 : decide ((y : Int) < (n : Int)) = true := decide_eq_true hx1
      by_cases hjn : ln ≤ n
      · have b3 : decide ((ln : Int) ≤ (n : Int)) = true := decide_eq_true (by omega)
        have hjn2 : (ln : Int) ≤ (n : Int) := by omega
        have EQ : Hid (L0 = (l ++ [(y : Int)]) ++ lineF S (n + 1 - (ln + 1)) (rightUnder (nd S y))) := by
          have e := HE.out
          rw [show n + 1 - ln = (n + 1 - (ln + 1)) + 1 by omega, LF.out _ y hy] at e
          show L0 = _
          rw [e, List.append_assoc]
          rfl
        obtain ⟨r, hr⟩ : ∃ r, rightUnder (nd S y) = r := ⟨_, rfl⟩
        have d2 := fun (v : Value) W => rRightUnder_any (nd S y) v W
        rw [show (if (nd S y).h = -1 then (nd S y).p else (nd S y).h) = r from hr] at d2
        have RUy : Hid _ := d2
        rw [hr] at EQ
        clear HE EXIT d2 hr
        have OB : Hid (∀ k, (Value.slice pa ln pc).ownBlock = some k → w.heap.size + 1 ≤ k) := fun k hk => (OWN.out.lt k hk).1
        go_wp2_with (at_builtin; refine wpList_append_own _ rfl _ _ 33 rfl (w.heap.size + 1) 3 i0 (.int .i64 0) 1 8 Try.underlying33 hi0 hz0 hz1 hz2 rfl (by decide) _ _ _ rfl (OWN.out.alloc _) ⟨wr.heap.size, 0, none⟩ 1 1 [.int .i64 (y : Int)] rfl rfl ?c1 ?c2 ?c3 ?c4 ?c5 ?_)
        case c2 => first | rfl | (intro u hu; simp at hu; subst hu; rfl) | simp
        case c3 => unfold maxLen; omega
        case c4 => omega
        case c5 => first | omega | (simp; omega)
        case c1 => first | (go_simp; done) | (intro j u hj; match j, hj with | 0, hj => (cases hj; go_simp) | (j + 1), hj => simp at hj)
        intro v' w2 hown' hgrow _
        obtain ⟨g', cap', rfl⟩ : ∃ g' cap', v' = .slice (some ⟨g', 0, none⟩) (ln + 1) cap' := by
          rcases hown'.2 with ⟨_, h⟩ | ⟨g', cap', cur, h, _⟩
          · omega
          · exact ⟨g', cap', h⟩
        have hb2 : Below (w.heap.size + 1) wr w2 := ((Below.refl _ wr).alloc (by omega) _).grown hgrow (by simp; omega) (fun k hk => OB.out k hk)
        have HB2 : Hid (Below w.heap.size w w2) := HB.out.trans (hb2.mono (by omega))
        have cs2 := (hb2.cell (p := ⟨w.heap.size, 0, none⟩) (by show w.heap.size < _; omega)).trans cs
        have hsz2 := World.block_lt_of_cell? _ _ cs2
        obtain ⟨nb, no, ea, k0, k1, k2, k3, k4, ⟨ka, kc, k5, _⟩, k6, k7⟩ := (HS.out.below HB2.out) y (by rw [HN.out]; exact hy)
        subst ea
        have hnb := World.block_lt_of_cell? _ _ k0
        have HO2 : Hid (w2.ownsRow (w.heap.size + 1) 3 1 (.slice (some ⟨g', 0, none⟩) (ln + 1) cap') (l ++ [(y : Int)]).length ((l ++ [(y : Int)]).map (Value.int .i64))) := by
          have h2 := hown'
          rw [show (l ++ [(y : Int)]).length = ln + 1 by simp [HLN.out], List.map_append]
          exact h2
        have HL2 : Hid ((l ++ [(y : Int)]).length = ln + 1) := (by simp [HLN.out] : (l ++ [(y : Int)]).length = ln + 1)
        clear hown' hgrow hb2 cs OWN
        go_wp2_with fail
        refine Calls.mono (RUy.out _ _) ?_
        rintro e w3 ⟨rfl, hb3⟩
        have HB3 : Hid (Below w.heap.size w w3) := HB2.out.trans (hb3.mono HB2.out.size)
        have cs3 := (hb3.cell (p := ⟨w.heap.size, 0, none⟩) hsz2).trans cs2
        have HO3 : Hid _ := own_below HO2.out hb3
        have hs3 := hb3.size
        clear hb3 k0 k1 k2 k3 k4 k5 k6 k7 cs2
        go_wp2
        go_roundg ((n + 1) - (ln + 1))
        case measure => omega
        case rel => exact ⟨ln + 1, _, l ++ [(y : Int)], by omega, by omega, rfl, HL2.out, HB3, cs3, by omega, HO3, EQ⟩
      · have hjn2 : ¬ (ln : Int) ≤ (n : Int) := by omega
        have b3 : decide ((ln : Int) ≤ (n : Int)) = false := decide_eq_false hjn2
        have hz : n + 1 - ln = 0 := by omega
        have OW : Hid _ := EXIT.out (by rw [hz]; rfl)
        clear EXIT HE OWN
        go_wp2
        go_ret
        exact ⟨_, rfl, HB.out, OW.out⟩
    · have OW : Hid _ := EXIT.out (LN.out _ _ hx)
      clear EXIT HE OWN
      by_cases h0 : 0 ≤ x
      · have h1 : ¬ x < (n : Int) := fun h => hx ⟨h0, h⟩
        have b1 : decide ((0 : Int) ≤ x) = true := decide_eq_true h0
        have b2 : decide (x < (n : Int)) = false := decide_eq_false h1
        clear hx
        go_wp2
        go_ret
        exact ⟨_, rfl, HB.out, OW.out⟩
      · have b1 : decide ((0 : Int) ≤ x) = false := decide_eq_false h0
        clear hx
        go_wp2
        go_ret
        exact ⟨_, rfl, HB.out, OW.out⟩
end Go.Proofs.Ytlgnapdhnlhkpaa
