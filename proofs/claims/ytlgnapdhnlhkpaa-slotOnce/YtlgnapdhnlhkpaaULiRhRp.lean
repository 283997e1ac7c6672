/-
  Slots and Given as the program tells them.
-/
import Derived.Test.YtlgnapdhnlhkpaaULgLh
import Derived.Test.YtlgnapdhnlhkpaaURg
import Derived.Test.YtlgnapdhnlhkpaaULdRaRbTo
import Derived.Test.YtlgnapdhnlhkpaaUXdUe
import Derived.Test.YtlgnapdhnlhkpaaULeRd
import Derived.Test.YtlgnapdhnlhkpaaUSmBoSpLay
import Derived.Test.YtlgnapdhnlhkpaaUTcSn
namespace Go.Proofs.Ytlgnapdhnlhkpaa
open Go.RowKit

set_option maxRecDepth 100000 in
set_option maxHeartbeats 1000000 in
theorem slots_err (a : Option Addr) (c : Nat) (S : List Nd) (p u E : Int) (w : World) (hN : S.length ≤ 9223372036854775807) (hB : Big S) (hS : NdsAt w a S) (hE : findE S p u = E) (hE0 : E ≠ 0) :
    Calls Try.prog 6 #[.agg #[.slice a S.length c], .agg #[.int .i64 p, .int .i64 u]] w fun e w' => e = .returned (.tuple #[.slice none 0 0, .int .i64 E]) ∧ Below w.heap.size w w' := by
  have D : Hid (∀ W, NdsAt W a S → Calls _ _ _ _ _) := fun W hW => find_err a c S p u E W hN hB hW hE hE0
  have HS : Hid (NdsAt w a S) := hS
  have e1 : (E == 0) = false := beq_eq_false_iff_ne.2 hE0
  have e2 : decide (E = 0) = false := decide_eq_false hE0
  clear hS hE hB
  generalize S.length = n at *
  go_enter Try.func6, Try.ntmps6
  go_wp2_with fail
  refine Calls.mono (D.out _ (HS.out.below (two_belowS _ _ _))) ?_
  rintro e w1 ⟨rfl, hb⟩
  have HB : Hid (Below w.heap.size w w1) := (two_belowS w _ _).trans (hb.mono (by simp; omega))
  clear hb
  go_wp2_with fail
  exact bodyPost_ret (v := .tuple #[.slice none 0 0, .int .i64 E]) (by simp [results, Try.results6, go_sem]) rfl ⟨rfl, HB.out.trans ((one_belowS _ _).mono HB.out.size)⟩

set_option maxRecDepth 100000 in
set_option maxHeartbeats 1000000 in
theorem slots_ok (a : Option Addr) (c : Nat) (S : List Nd) (k : Nat) (u : Int) (w : World) (wf : WF S) (hS : NdsAt w a S) (hk : k < S.length) (hE : findE S k u = 0) :
    Calls Try.prog 6 #[.agg #[.slice a S.length c], .agg #[.int .i64 (k : Int), .int .i64 u]] w fun e w' => ∃ v K, e = .returned (.tuple #[v, .int .i64 0]) ∧ Below w.heap.size w w' ∧ OwnS w.heap.size (slotsF S k) K v w' := by
  have hN := wf.small
  have D : Hid (∀ W, NdsAt W a S → Calls _ _ _ _ _) := fun W hW => find_ok a c S k u W (by omega) wf.big hW hk hE (by have := wf.kids_small hk; omega)
  have DG : Hid (∀ W, NdsAt W a S → Calls _ _ _ _ _) := fun W hW => slotsOf_all a c S k W wf hk hW
  have HS : Hid (NdsAt w a S) := hS
  clear hS hE wf
  generalize slotsF S k = F at *
  generalize nd S k = x at *
  obtain ⟨xu, xn, xt, xm, xp, xks, xh, xc⟩ := x
  generalize S.length = n at *
  dsimp only at D
  obtain ⟨xl, hxl⟩ : ∃ z, xks.length = z := ⟨_, rfl⟩
  rw [hxl] at D
  clear hxl
  go_enter Try.func6, Try.ntmps6
  go_wp2_with fail
  refine Calls.mono (D.out _ (HS.out.below (two_belowS _ _ _))) ?_
  rintro e w1 ⟨g, rfl, hb, _⟩
  have l0 := keepC (alloc_cell1 w #[.slice a n c] 24 0 (.cells #[.int .i64 (k : Int), .int .i64 u] 26) rfl) hb
  have l1 := keepC (alloc_cell2 w #[.int .i64 (k : Int), .int .i64 u] 26 0 (.cells #[.slice a n c] 24) rfl) hb
  have q0 := World.block_lt_of_cell? _ _ l0
  have q1 := World.block_lt_of_cell? _ _ l1
  have HB : Hid (Below w.heap.size w w1) := (two_belowS w _ _).trans (hb.mono (by simp; omega))
  clear hb D
  go_wp2_with fail
  refine Calls.mono (DG.out _ (HS.out.below (HB.out.trans ((one_belowS _ _).mono HB.out.size)))) ?_
  rintro e w2 ⟨v, K, rfl, hb, hO⟩
  have HB2 : Hid (Below w.heap.size w w2) := (HB.out.trans ((one_belowS _ _).mono HB.out.size)).trans (hb.mono (by have := HB.out.size; simp; omega))
  have HO : Hid (OwnS w.heap.size F K v w2) := OwnS.base hO (by have := HB.out.size; simp; omega)
  clear hb hO DG l0 l1
  go_wp2_with fail
  exact bodyPost_ret (v := .tuple #[v, .int .i64 0]) (by simp [results, Try.results6, go_sem]) rfl ⟨v, K, rfl, HB2.out, HO.out⟩

set_option maxRecDepth 100000 in
set_option maxHeartbeats 1000000 in
theorem given_err (a : Option Addr) (c : Nat) (S : List Nd) (p u E : Int) (w : World) (hN : S.length ≤ 9223372036854775807) (hB : Big S) (hS : NdsAt w a S) (hE : findE S p u = E) (hE0 : E ≠ 0) :
    Calls Try.prog 7 #[.agg #[.slice a S.length c], .agg #[.int .i64 p, .int .i64 u]] w fun e w' => e = .returned (.tuple #[.int .i64 0, .int .i64 E]) ∧ Below w.heap.size w w' := by
  have D : Hid (∀ W, NdsAt W a S → Calls _ _ _ _ _) := fun W hW => find_err a c S p u E W hN hB hW hE hE0
  have HS : Hid (NdsAt w a S) := hS
  have e1 : (E == 0) = false := beq_eq_false_iff_ne.2 hE0
  have e2 : decide (E = 0) = false := decide_eq_false hE0
  clear hS hE hB
  generalize S.length = n at *
  go_enter Try.func7, Try.ntmps7
  go_wp2_with fail
  refine Calls.mono (D.out _ (HS.out.below (two_belowS _ _ _))) ?_
  rintro e w1 ⟨rfl, hb⟩
  have HB : Hid (Below w.heap.size w w1) := (two_belowS w _ _).trans (hb.mono (by simp; omega))
  clear hb
  go_wp2_with fail
  exact bodyPost_ret (v := .tuple #[.int .i64 0, .int .i64 E]) (by simp [results, Try.results7, go_sem]) rfl ⟨rfl, HB.out.trans ((one_belowS _ _).mono HB.out.size)⟩
end Go.Proofs.Ytlgnapdhnlhkpaa

namespace Go.Proofs.Ytlgnapdhnlhkpaa
open Go.RowKit

/-- What is asked of the reference's Check (its contract: rCheck_few, rCheck_many). -/
def RChk (a : Option Addr) (c : Nat) (S : List Nd) : Prop := ∀ W, NdsAt W a S → Calls Try.prog 48 #[.agg #[.slice a S.length c]] W fun e w' => e = .returned (.int .i64 (checkE S)) ∧ Below W.heap.size W w'

def restE (S : List Nd) (e : Int) (l : List (Int × Int)) : Int := if e = 0 then handsE S l else e

set_option maxHeartbeats 2000000 in
theorem rFirst_any (a : Option Addr) (c : Nat) (S : List Nd) (ha : Option Addr) (hc : Nat) (hs : List (Int × Int)) (w : World) (hN : S.length ≤ 9223372036854775807) (hC : RChk a c S) (hS : NdsAt w a S) (hL : hs.length ≤ 9223372036854775807) (hH : HandsAt w ha hs) :
    Calls Try.prog 27 #[.agg #[.slice a S.length c], .slice ha hs.length hc] w fun e w' => e = .returned (.int .i64 (tcheckE S hs)) ∧ Below w.heap.size w w' := by
  have dc : Hid _ := hC
  have dh := fun (p u : Int) (W : World) (hW : NdsAt W a S) => rHolds_any a c S p u W hN hW
  have DH : Hid _ := dh
  have HS : Hid (NdsAt w a S) := hS
  have HH : Hid (HandsAt w ha hs) := hH
  have R0 : Hid (tcheckE S hs = restE S (checkE S) (hs.drop 0)) := (rfl : tcheckE S hs = restE S (checkE S) (hs.drop 0))
  clear hS hH dh hC
  unfold RChk at dc
  generalize tcheckE S hs = RES at *
  generalize checkE S = E0 at *
  generalize hn : S.length = n at *
  generalize hm : hs.length = m at *
  have HM : Hid (hs.length = m) := hm
  clear hm hn
  go_enter Try.func27, Try.ntmps27
  go_wp2_with (go_at_call 48; refine (dc.out _ (HS.out.below ((Below.refl _ _).alloc (Nat.le_refl _) _))).mono ?_; rintro e w1 ⟨rfl, hb1⟩)
  have lb : w1.cell? ⟨w.heap.size, 0, none⟩ = some (.slice a n c) := store_low (by simpa using hb1)
  have hB1 : Below w.heap.size w w1 := ((Below.refl _ _).alloc (Nat.le_refl _) _).trans (hb1.mono (by simp))
  clear hb1 dc
  go_loopg [5, 12] m (fun g s5 s12 wr => ∃ (k : Nat) (ev : Int), k ≤ m ∧ m - k ≤ g ∧ s5 = .int .i64 ev ∧ s12 = .int .i64 k ∧ Below w.heap.size w wr ∧ wr.cell? ⟨w.heap.size, 0, none⟩ = some (.slice a n c) ∧ Hid (RES = restE S ev (hs.drop k)))
  case atStart => exact ⟨0, E0, by omega, by omega, rfl, rfl, hB1, lb, R0⟩
  case round =>
    obtain ⟨k, ev, hk, hg, rfl, rfl, hb, lb2, A⟩ := hrel
    have hlb := World.block_lt_of_cell? _ _ lb2
    clear lb hB1 R0
    by_cases hlt : k < m
    · obtain ⟨b, o, rfl, c0, c1⟩ := (HH.out.below hb) k (by rw [HM.out]; exact hlt)
      have hbw := World.block_lt_of_cell? _ _ c0
      have EQ := A.out
      rw [drop_cons (d := (0, 0)) (by rw [HM.out]; exact hlt)] at EQ
      simp only [restE, handsE] at EQ
      generalize (hs.getD k (0, 0)).1 = p at *
      generalize (hs.getD k (0, 0)).2 = u at *
      have d1 := fun W hW => DH.out p u W hW
      have HB : Hid (∀ o1, NdsAt (wr.alloc o1) a S) := fun o1 => (HS.out.below hb).below ((Below.refl _ _).alloc (Nat.le_refl _) _)
      generalize holdsE S p u = hv at *
      by_cases hz : ev = 0
      · subst hz
        rw [if_pos rfl] at EQ
        have E2 : Hid (RES = restE S hv (hs.drop (k + 1))) := EQ
        clear EQ
        go_wp2_with (go_at_call 49; refine (d1 _ (HB.out _)).mono ?_; rintro e w2 ⟨rfl, hb2⟩)
        go_roundg (m - (k + 1))
        case measure => omega
        case rel =>
          have hb3 : Below wr.heap.size wr w2 := ((Below.refl _ _).alloc (Nat.le_refl _) _).trans (hb2.mono (by simp))
          exact ⟨k + 1, hv, by omega, by omega, rfl, by go_num, hb.trans (hb3.mono hb.size), (hb3.cell hlb).trans lb2, E2⟩
      · rw [if_neg hz] at EQ
        have hz2 : (ev == 0) = false := by simp [hz]
        have E2 : Hid (RES = restE S ev (hs.drop (k + 1))) := (by rw [EQ, restE, if_neg hz] : RES = restE S ev (hs.drop (k + 1)))
        clear EQ
        go_wp2_with fail
        go_roundg (m - (k + 1))
        case measure => omega
        case rel =>
          have hb3 : Below wr.heap.size wr (wr.alloc (.cells #[.int .i64 p, .int .i64 u] 26)) := ((Below.refl wr.heap.size wr).alloc (Nat.le_refl _) _)
          exact ⟨k + 1, ev, by omega, by omega, rfl, by go_num, hb.trans (hb3.mono hb.size), (hb3.cell hlb).trans lb2, E2⟩
    · have : k = m := by omega
      subst this
      have EQ := A.out
      rw [← HM.out, List.drop_length] at EQ
      have E2 : RES = ev := by
        rw [EQ, restE]
        split
        · next h => rw [h]; rfl
        · rfl
      subst E2
      clear EQ A
      go_wp2
      go_ret
      exact ⟨rfl, hb⟩
end Go.Proofs.Ytlgnapdhnlhkpaa

namespace Go.Proofs.Ytlgnapdhnlhkpaa
open Go.RowKit

def noRootB (S : List Nd) (x : Int) : Bool := decide ((nd S x.toNat).h = -1)
def rootsL (S : List Nd) (k : Nat) : List Int := flt (noRootB S) (pathF S k)

theorem line_path {S : List Nd} {k : Nat} (hk : k < S.length) : lineF S (S.length + 1) (k : Int) = pathF S k := by
  rw [lineF, if_pos (isPl_nat.2 hk), Int.toNat_natCast]
  rfl

theorem mem_rootsL {S : List Nd} {k : Nat} {x : Int} : x ∈ rootsL S k ↔ x ∈ pathF S k ∧ (nd S x.toNat).h ≠ -1 := by
  unfold rootsL flt noRootB
  simp

theorem rootsL_len (S : List Nd) (k : Nat) : (rootsL S k).length ≤ S.length + 1 := Nat.le_trans (flt_le _ _) (path_len S k)

theorem rootsL_place {S : List Nd} {k : Nat} (hk : k < S.length) {y : Int} (hy : y ∈ rootsL S k) : ∃ x : Nat, y = x ∧ x < S.length := by
  obtain ⟨x, _, e1, e2, _⟩ := mem_path hk (mem_rootsL.1 hy).1
  exact ⟨x, e1, e2⟩

theorem roots_of_L {S : List Nd} {p q : Nat} : rootsF S p q = flt (fun x => decide (x ∈ rootsL S p)) (rootsL S q) := by
  unfold rootsF
  conv => rhs; arg 2; unfold rootsL
  unfold flt
  rw [List.filter_filter]
  refine List.filter_congr fun x _ => ?_
  unfold outB noRootB
  have := mem_rootsL (S := S) (k := p) (x := x)
  by_cases h1 : x ∈ pathF S p <;> by_cases h2 : (nd S x.toNat).h = -1 <;> simp [h1, h2, this]

/-- What is seen, root by root. -/
def hidB (S : List Nd) (p : Nat) (x : Int) : Bool := (nd S x.toNat).c && !decide (x ∈ rootsL S p)

theorem seen_L {S : List Nd} {p q : Nat} : seenF S p q = !((rootsL S q).any (hidB S p)) := by
  unfold seenF
  rw [roots_of_L]
  congr 1
  unfold flt
  rw [List.any_filter]
  congr 1
  funext x
  unfold hidB
  cases (nd S x.toNat).c <;> simp

theorem fold_last (f : Int → Int) (p : Int → Bool) : ∀ (l : List Int) (k : Int), l.foldl (fun acc x => if p x then acc else f x) k = if flt p l = [] then k else f ((flt p l).getLastD 0)
  | [], k => by simp [flt]
  | x :: l, k => by
    rw [List.foldl_cons, fold_last f p l]
    by_cases h : p x = true
    · have e : flt p (x :: l) = flt p l := by unfold flt; simp [h]
      rw [e, if_pos h]
    · have e : flt p (x :: l) = x :: flt p l := by unfold flt; simp [h]
      rw [e, if_neg h, if_neg (List.cons_ne_nil _ _)]
      cases hl : flt p l with
      | nil => simp
      | cons y r => simp [List.getLastD]

def tgtF (S : List Nd) (told : Nat) (l : List Int) (k : Int) : Int := l.foldl (fun acc x => if decide (x ∈ rootsL S told) then acc else (nd S x.toNat).h) k

theorem target_L {S : List Nd} {k told : Nat} : targetF S k told = tgtF S told (rootsL S k) k := by
  unfold targetF tgtF
  rw [fold_last (fun x => (nd S x.toNat).h) (fun x => decide (x ∈ rootsL S told)), ← roots_of_L]

theorem take_getD {l : List Int} {i : Nat} (h : i < l.length) : l.take (i + 1) = l.take i ++ [l.getD i 0] := by
  rw [List.take_succ_eq_append_getElem h, getD_elem l 0 h]

set_option maxRecDepth 100000 in
set_option maxHeartbeats 4000000 in
theorem rRoots_any (a : Option Addr) (c : Nat) (S : List Nd) (k : Nat) (w : World) (hN : S.length ≤ 24) (hk : k < S.length) (hS : NdsAt w a S) :
    Calls Try.prog 20 #[.agg #[.slice a S.length c], .int .i64 (k : Int)] w fun e w' => ∃ v, e = .returned v ∧ Below w.heap.size w w' ∧ w'.ownsRow w.heap.size 3 1 v (rootsL S k).length ((rootsL S k).map (Value.int .i64)) := by
  obtain ⟨i0, hi0, hz0, hz1, hz2⟩ := info_parts info3
  have dl := fun (W : World) (hW : NdsAt W a S) => rLine_any a c S (k : Int) W hN hW
  rw [line_path hk] at dl
  have DL : Hid _ := dl
  have HS : Hid (NdsAt w a S) := hS
  have PL : Hid (∀ y ∈ pathF S k, ∃ x : Nat, y = x ∧ x < S.length) := fun y hy => by
    obtain ⟨x, _, e1, e2, _⟩ := mem_path hk hy
    exact ⟨x, e1, e2⟩
  have PB : Hid ((pathF S k).length ≤ 25) := Nat.le_trans (path_len S k) (by omega)
  have R0 : Hid (rootsL S k = flt (noRootB S) (pathF S k)) := (rfl : rootsL S k = _)
  clear hS dl
  generalize rootsL S k = RES at *
  generalize pathF S k = P at *
  obtain ⟨m, hm⟩ : ∃ m, P.length = m := ⟨_, rfl⟩
  have HM : Hid (P.length = m) := hm
  rw [hm] at DL PB
  have hmb : m ≤ 25 := PB.out
  obtain ⟨n, hn⟩ : ∃ n, S.length = n := ⟨_, rfl⟩
  have HN : Hid (S.length = n) := hn
  rw [hn] at hN hk DL PL ⊢
  clear hn hm
  go_enter Try.func20, Try.ntmps20
  go_wp2_with fail
  refine Calls.mono (DL.out _ (HS.out.below ((Below.refl _ _).alloc (Nat.le_refl _) _))) ?_
  rintro e w1 ⟨v, rfl, hb1, hown1⟩
  have hb1' := hb1
  simp only [World.size_alloc] at hb1'
  have hs1 := hb1'.size
  simp only [World.size_alloc] at hs1
  have ho2 : w1.ownsRow (w.alloc (.cells #[.slice a n c] 24)).heap.size 3 1 v P.length (P.map (Value.int .i64)) := by rw [HM.out]; exact hown1
  obtain ⟨pa, pc, hv, hints, _⟩ := own_slice ho2
  rw [HM.out] at hv
  subst hv
  have l0 : w1.cell? ⟨w.heap.size, 0, none⟩ = some (.slice a n c) := (hb1'.cell (by simp)).trans (by go_simp)
  have HB1 : Hid (Below w.heap.size w w1) := ((Below.refl _ _).alloc (Nat.le_refl _) _).trans (hb1'.mono (by omega))
  have HI : Hid (IntsAt w1 pa P) := hints
  clear hb1 hb1' hown1 ho2 hints
  go_wp2_with fail
  go_loopg [5, 12] m (fun g s5 s12 wr => ∃ (i : Nat) (l : List Int), i ≤ m ∧ m - i ≤ g ∧ s12 = .int .i64 i ∧ l.length ≤ i ∧ Hid (Below w1.heap.size w1 wr) ∧ wr.cell? ⟨w.heap.size, 0, none⟩ = some (.slice a n c) ∧ w1.heap.size ≤ wr.heap.size ∧ Hid (wr.ownsRow w1.heap.size 3 1 s5 l.length (l.map (Value.int .i64))) ∧ Hid (l = flt (noRootB S) (P.take i)))
  case atStart => exact ⟨0, [], by omega, by omega, rfl, by simp, Below.refl _ _, l0, Nat.le_refl _, World.ownsRow_nil _ _ _ _, (by simp [flt] : ([] : List Int) = flt (noRootB S) (P.take 0))⟩
  case round =>
    obtain ⟨i, l, hi, hg, rfl, hli, HB, cs, hsz, HO, HE⟩ := hrel
    clear l0
    obtain ⟨qa, qc, hv, _⟩ := own_slice HO.out
    subst hv
    obtain ⟨ln, hln⟩ : ∃ y, l.length = y := ⟨_, rfl⟩
    have HLN : Hid (l.length = ln) := hln
    rw [hln] at HO hli ⊢
    clear hln
    have HBW : Hid (Below w.heap.size w wr) := HB1.out.trans (HB.out.mono HB1.out.size)
    by_cases hlt : i < m
    · obtain ⟨y, hy, hyn⟩ := PL.out (P.getD i 0) (by rw [getD_elem P 0 (by rw [HM.out]; exact hlt)]; exact List.getElem_mem _)
      obtain ⟨pb, po, ep, hpc⟩ := (HI.out.below HB.out) i (by rw [HM.out]; exact hlt)
      subst ep
      rw [hy] at hpc
      obtain ⟨nb, no, ea, _, _, _, _, _, _, c6, _⟩ := (HS.out.below HBW.out) y (by rw [HN.out]; exact hyn)
      subst ea
      have hy2 : (y : Int) < (n : Int) := by omega
      have hi2 : (i : Int) < (m : Int) := by omega
      have NX : Hid (flt (noRootB S) (P.take (i + 1)) = l ++ (if (nd S y).h = -1 then [] else [(y : Int)])) := by
        have e := flt_succ (noRootB S) P i (by rw [HM.out]; exact hlt)
        rw [hy] at e
        show flt _ _ = _
        rw [e, ← HE.out]
        unfold noRootB
        rw [Int.toNat_natCast]
        by_cases h : (nd S y).h = -1 <;> simp [h]
      clear HE hy
      generalize (nd S y).h = hh at *
      by_cases hh1 : hh = -1
      · subst hh1
        have E2 : Hid (l = flt (noRootB S) (P.take (i + 1))) := (by rw [NX.out]; simp : l = flt (noRootB S) (P.take (i + 1)))
        have HO2 : Hid (wr.ownsRow w1.heap.size 3 1 (.slice qa ln qc) l.length (l.map (Value.int .i64))) := (by rw [HLN.out]; exact HO.out : wr.ownsRow w1.heap.size 3 1 (.slice qa ln qc) l.length (l.map (Value.int .i64)))
        clear NX HO
        go_wp2
        go_roundg (m - (i + 1))
        case measure => omega
        case rel => exact ⟨i + 1, l, by omega, by omega, by go_num, by rw [HLN.out]; omega, HB, cs, hsz, HO2, E2⟩
      · have hhb : (hh == -1) = false := beq_eq_false_iff_ne.2 hh1
        have hhd : decide (hh = -1) = false := decide_eq_false hh1
        have E2 : Hid (l ++ [(y : Int)] = flt (noRootB S) (P.take (i + 1))) := (by rw [NX.out, if_neg hh1] : l ++ [(y : Int)] = flt (noRootB S) (P.take (i + 1)))
        have OB : Hid (∀ k, (Value.slice qa ln qc).ownBlock = some k → w1.heap.size ≤ k) := fun k hk => (HO.out.lt k hk).1
        have hln1 : ln ≤ 24 := by omega
        clear NX
        go_wp2_with (at_builtin; refine wpList_append_own _ rfl _ _ 33 rfl w1.heap.size 3 i0 (.int .i64 0) 1 8 Try.underlying33 hi0 hz0 hz1 hz2 rfl (by decide) _ _ _ rfl (HO.out.alloc _) ⟨wr.heap.size, 0, none⟩ 1 1 [.int .i64 (y : Int)] rfl rfl ?c1 ?c2 ?c3 ?c4 ?c5 ?_)
        case c2 => first | rfl | (intro u hu; simp at hu; subst hu; rfl) | simp
        case c3 => unfold maxLen; omega
        case c4 => omega
        case c5 => first | omega | (simp; omega)
        case c1 => first | (go_simp; done) | (intro j u hj; match j, hj with | 0, hj => (cases hj; go_simp) | (j + 1), hj => simp at hj)
        intro v' w2 hown' hgrow _
        have hb2 : Below w1.heap.size wr w2 := ((Below.refl _ wr).alloc (by omega) _).grown hgrow (by simp; omega) (fun k hk => OB.out k hk)
        have HB2 : Hid (Below w1.heap.size w1 w2) := HB.out.trans hb2
        have cs2 := (hb2.cell (p := ⟨w.heap.size, 0, none⟩) (by show w.heap.size < _; omega)).trans cs
        have HO2 : Hid (w2.ownsRow w1.heap.size 3 1 v' (l ++ [(y : Int)]).length ((l ++ [(y : Int)]).map (Value.int .i64))) := by
          have h2 := hown'
          rw [show (l ++ [(y : Int)]).length = ln + 1 by simp [HLN.out], List.map_append]
          exact h2
        have hs2 := HB2.out.size
        clear hown' hgrow hb2 cs HO
        go_wp2_with fail
        go_roundg (m - (i + 1))
        case measure => omega
        case rel => exact ⟨i + 1, l ++ [(y : Int)], by omega, by omega, by go_num, by simp [HLN.out]; omega, HB2, cs2, hs2, HO2, E2⟩
    · have hie : i = m := by omega
      subst hie
      have e := HE.out
      rw [List.take_of_length_le (by rw [HM.out]; omega), ← R0.out] at e
      have OW : Hid (wr.ownsRow w.heap.size 3 1 (.slice qa ln qc) RES.length (RES.map (Value.int .i64))) := by
        have h2 := ownsRow_base HO.out (show w.heap.size ≤ w1.heap.size by omega)
        rw [← HLN.out, e] at h2
        rw [← HLN.out, e]
        exact h2
      clear HE e HO
      go_wp2
      go_ret
      exact ⟨_, rfl, HBW.out, OW.out⟩
end Go.Proofs.Ytlgnapdhnlhkpaa
