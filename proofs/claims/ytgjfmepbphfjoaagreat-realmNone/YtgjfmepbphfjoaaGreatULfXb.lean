/-
  The slots of a root as the program finds them: slotsOf, where there is a root.
-/
import Derived.Test.YtgjfmepbphfjoaaGreatUVeVfLe
import Derived.Test.YtgjfmepbphfjoaaGreatUXdUe
import Derived.Deep.RegionWith
namespace Go.Proofs.YtgjfmepbphfjoaaGreat
open Go.RowKit

theorem WF.used_host {S : List Nd} (h : WF S) {r : Nat} (hr : r < S.length) (hh : (nd S r).h ≠ -1) : (nd S r).u = true := by
  have hf := (node_parts (h.node r hr)).2.2
  unfold formB at hf
  split at hf
  · rename_i hu; exact hu
  · have := of_decide_eq_true hf
    omega

theorem slots_take {S : List Nd} {H : Nat} {P : List Int} {i : Nat} (hi : i < P.length) {y : Nat} (hy : P.getD i 0 = y) : slotsL S H (P.take (i + 1)) = slotStep S H (slotsL S H (P.take i)) (y : Int) := by
  rw [List.take_succ_eq_append_getElem hi, slotsL_snoc]
  rw [getD_elem P 0 hi] at hy
  rw [hy]

theorem slots_few {S : List Nd} {H : Nat} {P : List Int} (i : Nat) (hm : P.length ≤ 24) : (slotsL S H (P.take i)).length ≤ 24 := by
  have h1 := slots_len S H (P.take i)
  have h2 := List.length_take_le i P
  have h3 := List.length_take_le' i P
  omega

set_option maxRecDepth 100000 in
set_option maxHeartbeats 4000000 in
theorem slotsOf_ok (a : Option Addr) (c : Nat) (S : List Nd) (H r : Nat) (w : World) (wf : WF S) (hB : Big S) (hH : H < S.length) (hr : r < S.length) (er : rootE S H = r) (hh : (nd S r).h = H) (hS : NdsAt w a S) :
    Calls Tryz.prog 142 #[.agg #[.slice a S.length c], .int .i64 (H : Int)] w fun e w' => ∃ v K, e = .returned v ∧ Below w.heap.size w w' ∧ OwnS w.heap.size (slotsF S H) K v w' := by
  obtain ⟨i0, hi0, hz0, hz1, hz2⟩ := info_parts info143
  have hN := wf.small
  have hu := wf.used_host hr (by omega)
  have RES : Hid (slotsF S H = slotsL S H (orderF S S.length r)) := by
    show _ = _
    unfold slotsF
    rw [er, if_neg (by omega), Int.toNat_natCast]
  have d := fun (W : World) (hW : NdsAt W a S) => rootOf_any a c S (H : Int) W (by omega) hW
  rw [er] at d
  have D : Hid _ := d
  have DO : Hid (∀ W, NdsAt W a S → Calls _ _ _ _ _) := fun W hW => order_ok a c S r S.length (nd S r).n W (by omega) hB hW (tcheck_of hr hu rfl wf) hr (wf.deep_all hr) (by have := order_le wf hr; omega)
  have KM : Hid (∀ (mk : Int) W, NdsAt W a S → Calls _ _ _ _ _) := fun mk W hW => marked_any a c S H mk W hH (by have := wf.kids_small hH; omega) (fun y hy => by obtain ⟨k, e, hk, _⟩ := wf.kid hH hy; exact ⟨k, e, hk⟩) hW
  have HS : Hid (NdsAt w a S) := hS
  have TT : Hid (∀ y, y < S.length → 0 ≤ (nd S y).t ∧ (nd S y).t ≤ 99) := fun y hy => by
    have h1 := (node_parts (wf.node y hy)).1
    unfold rangeB at h1
    simp at h1
    omega
  have PL : Hid (∀ y ∈ orderF S S.length r, ∃ x : Nat, y = x ∧ x < S.length) := fun y hy => by
    obtain ⟨q, e, hq, _⟩ := mem_order wf hr (wf.deep_all hr) y hy
    exact ⟨q, e, hq⟩
  have hPl : (orderF S S.length r).length ≤ 24 := by have := order_le wf hr; omega
  clear d hS hu er hB wf
  generalize orderF S S.length r = P at *
  obtain ⟨m, hm⟩ : ∃ m, P.length = m := ⟨_, rfl⟩
  have HM : Hid (P.length = m) := hm
  rw [hm] at DO hPl
  obtain ⟨n, hn⟩ : ∃ n, S.length = n := ⟨_, rfl⟩
  have HN : Hid (S.length = n) := hn
  rw [hn] at hN hH hr D DO KM TT PL ⊢
  have hH2 : (H : Int) < (n : Int) := by omega
  have hr2 : (r : Int) < (n : Int) := by omega
  have hr3 : ((r : Int) == -1) = false := by simp
  have hr4 : decide ((r : Int) = -1) = false := by simp
  clear hn hm
  go_enter Tryz.func142, Tryz.ntmps142
  go_wp2_with fail
  refine Calls.mono (D.out _ (HS.out.below ((Below.refl _ _).alloc (Nat.le_refl _) _))) ?_
  rintro e w1 ⟨rfl, hb1⟩
  have hb1' := hb1
  simp only [World.size_alloc] at hb1'
  have hs1 := hb1'.size
  simp only [World.size_alloc] at hs1
  have l0 : w1.cell? ⟨w.heap.size, 0, none⟩ = some (.slice a n c) := (hb1'.cell (by simp)).trans (by go_simp)
  have HB1 : Hid (Below w.heap.size w w1) := ((Below.refl _ _).alloc (Nat.le_refl _) _).trans (hb1'.mono (by omega))
  obtain ⟨nb, no, ea, _, c1, _⟩ := (HS.out.below HB1.out) r (by rw [HN.out]; exact hr)
  subst ea
  have q0 := World.block_lt_of_cell? _ _ l0
  have q1 := World.block_lt_of_cell? _ _ c1
  clear hb1 hb1' D
  generalize (nd S r).n = U at *
  go_wp2_with fail
  go_region_held3 (fun w'' => w''.cell? ⟨w.heap.size, 0, none⟩ = some (.slice (some ⟨nb, no, none⟩) n c) ∧ w''.cell? ⟨nb, no + r * 8 + 1, none⟩ = some (.int .i64 U)) (go_keep) (first | (go_at_call 127; refine (Calls.mono (DO.out _ ?nd) ?_); (case nd => exact HS.out.below HB1.out.drew); rintro e w2 ⟨sa, cap, rfl, hb2, hI, hc1, hc2⟩; have HB2 : Hid (Below w.heap.size w w2) := HB1.out.drew.trans (hb2.mono HB1.out.size); have l2 : w2.cell? ⟨w.heap.size, 0, none⟩ = some (.slice (some ⟨nb, no, none⟩) n c) := (hb2.cell (by exact q0)).trans l0; have d1 : w2.cell? ⟨nb, no + r * 8 + 1, none⟩ = some (.int .i64 U) := (hb2.cell (by exact q1)).trans c1; have s2 : w.heap.size < w2.heap.size := Nat.lt_of_lt_of_le q0 hb2.size; have s3 : nb < w2.heap.size := Nat.lt_of_lt_of_le q1 hb2.size; have HI : Hid (IntsAt w2 sa P) := hI; clear hb2 hI hc1 hc2))
  go_wp2_with fail
  go_loopg [8, 33] m (fun g s8 s33 wr => ∃ (i : Nat) (K : Nat → Value), i ≤ m ∧ m - i ≤ g ∧ s33 = .int .i64 i ∧ Hid (Below w2.heap.size w2 wr) ∧ wr.cell? ⟨w.heap.size, 0, none⟩ = some (.slice (some ⟨nb, no, none⟩) n c) ∧ w2.heap.size ≤ wr.heap.size ∧ Hid (OwnS w2.heap.size (slotsL S H (P.take i)) K s8 wr))
  case atStart => exact ⟨0, fun _ => .slice none 0 0, by omega, by omega, rfl, Below.refl _ _, l2, Nat.le_refl _, (show OwnS w2.heap.size (slotsL S H []) _ _ w2 from ⟨World.ownsRow_nil _ _ _ _, fun i hi => by cases hi⟩)⟩
  case round =>
    obtain ⟨i, K, hi, hg, rfl, HB, cs, hsz, HO⟩ := hrel
    clear l2
    have HF : Hid ((slotsL S H (P.take i)).length ≤ 24) := slots_few i (by rw [HM.out]; exact hPl)
    obtain ⟨qa, qc, hv, hsl⟩ := HO.out.slts
    subst hv
    have HBW : Hid (Below w.heap.size w wr) := HB2.out.trans (HB.out.mono HB2.out.size)
    by_cases hlt : i < m
    · obtain ⟨y, hy, hyn⟩ := PL.out (P.getD i 0) (by rw [getD_elem P 0 (by rw [HM.out]; exact hlt)]; exact List.getElem_mem _)
      obtain ⟨pb, po, ep, hpc⟩ := (HI.out.below HB.out) i (by rw [HM.out]; exact hlt)
      subst ep
      rw [hy] at hpc
      obtain ⟨nb', no', ea, _, _, c2, _⟩ := (HS.out.below HBW.out) y (by rw [HN.out]; exact hyn)
      cases ea
      have hy2 : (y : Int) < (n : Int) := by omega
      have hi2 : (i : Int) < (m : Int) := by omega
      have NX : Hid (slotsL S H (P.take (i + 1)) = slotStep S H (slotsL S H (P.take i)) (y : Int)) := slots_take (by rw [HM.out]; exact hlt) hy
      have ht := TT.out y hyn
      have HT : Hid (numF S (y : Int) = (nd S y).t - 90) := by show _ = _; unfold numF; rw [Int.toNat_natCast]
      clear hy
      generalize (nd S y).t = T at *
      obtain ⟨Q, hQ⟩ : ∃ Q, T - 90 = Q := ⟨_, rfl⟩
      have hw : IntKind.i64.wrap (T - 90) = Q := by rw [hQ]; have := hQ; unfold IntKind.wrap; simp [IntKind.bits, IntKind.signed]; omega
      have HSL : Hid (SltsAt wr qa (slotsL S H (P.take i))) := hsl
      clear hsl
      generalize slotsL S H (P.take i) = L at *
      have hF := HF.out
      have hc := fun (W : World) (hW : SltsAt W qa L) (hq : W.cell? ⟨wr.heap.size, 0, none⟩ = some (.int .i64 Q)) => hasNum_any qa qc L wr.heap.size Q W (by omega) hW hq
      have STEP := fun (wp w3 : World) (v1 v2 : Value) (s : Slt) (o3 : Obj) => OwnS.step (wp := wp) (w3 := w3) (v1 := v1) (v2 := v2) (s := s) (o3 := o3) HO.out hsz
      obtain ⟨ln, hln⟩ : ∃ z, L.length = z := ⟨_, rfl⟩
      have HLN : Hid (L.length = ln) := hln
      rw [hln] at HO HF hc STEP hF ⊢
      have HC : Hid _ := hc
      have HST : Hid _ := STEP
      clear hln hc STEP
      by_cases hneg : Q < 0
      · have EQ : Hid (slotsL S H (P.take (i + 1)) = L) := by
          show _ = _
          rw [NX.out]
          unfold slotStep
          rw [if_pos (by rw [HT.out]; omega)]
        go_wp2_with fail
        go_roundg (m - (i + 1))
        case measure => omega
        case rel => exact ⟨i + 1, K, by omega, by omega, by go_num, HB.out.trans ((one_belowS _ _).mono hsz), keepC cs (one_belowS _ _), by simp; omega, (show OwnS _ (slotsL S H (P.take (i + 1))) K (.slice qa ln qc) _ by rw [EQ.out]; exact HO.out.below (one_belowS _ _))⟩
      · have EQ : Hid (slotsL S H (P.take (i + 1)) = L ++ [⟨(y : Int), Q, if L.any (fun s => decide (s.num = Q)) then [] else markedF S H Q⟩]) := by
          show _ = _
          rw [NX.out]
          unfold slotStep
          rw [HT.out, hQ, if_neg (by omega)]
        clear NX HT
        have OM : Hid (∀ (W : World) (o3 : Obj), (∀ k, k < wr.heap.size → W.heap[k]? = wr.heap[k]?) → wr.heap.size ≤ W.heap.size → (W.alloc o3).ownsRow w2.heap.size 143 3 (.slice qa ln qc) ln (scells L K)) := fun W o3 h1 h2 => by
          have h3 := HO.out.1
          rw [HLN.out] at h3
          exact owns_block h3 (fun k hk => (Below.heap_alloc _ _ _ (by have := (h3.lt k hk).2; omega)).trans (h1 k (h3.lt k hk).2))
        have OB : Hid (∀ k, (Value.slice qa ln qc).ownBlock = some k → w2.heap.size ≤ k) := fun k hk => (HO.out.1.lt k hk).1
        go_wp2_with fail
        refine Calls.mono (HC.out _ (HSL.out.below (two_belowS _ _ _)) (alloc_cell1 wr _ _ 0 _ rfl)) ?_
        rintro e w3 ⟨rfl, hb⟩
        have n0 := keepC (alloc_cell1 wr #[.int .i64 Q] 3 0 (.cells #[.int .i64 (y : Int), .int .i64 Q, .slice none 0 0] 143) rfl) hb
        have n1 := keepC (alloc_cell2 wr #[.int .i64 (y : Int), .int .i64 Q, .slice none 0 0] 143 0 (.cells #[.int .i64 Q] 3) rfl) hb
        have n2 := keepC (alloc_cell2 wr #[.int .i64 (y : Int), .int .i64 Q, .slice none 0 0] 143 1 (.cells #[.int .i64 Q] 3) rfl) hb
        have n3 := keepC (alloc_cell2 wr #[.int .i64 (y : Int), .int .i64 Q, .slice none 0 0] 143 2 (.cells #[.int .i64 Q] 3) rfl) hb
        have nf : w3.frozen? ⟨wr.heap.size + 1, 2, none⟩ = false := (hb.frozen (p := ⟨wr.heap.size + 1, 2, none⟩) (by simp)).trans (by go_simp)
        have hs3 := hb.size
        simp only [World.size_alloc] at hs3
        have HW3 : Hid (Below wr.heap.size wr w3) := (two_belowS wr _ _).trans (hb.mono (by simp; omega))
        have cs3 := keepC cs HW3.out
        have HB3 : Hid (Below w2.heap.size w2 w3) := HB.out.trans (HW3.out.mono hsz)
        have z1 : wr.heap.size < w3.heap.size := by omega
        have z2 : wr.heap.size + 1 < w3.heap.size := by omega
        have z3 : w.heap.size < w3.heap.size := by omega
        clear hb cs HC
        generalize L.any (fun s => decide (s.num = Q)) = A at *
        cases A with
        | true =>
          go_wp2_with (at_builtin; refine wpList_append_own _ rfl _ _ 140 rfl w2.heap.size 143 i0 _ 3 40 Tryz.underlying140 hi0 hz0 hz1 hz2 rfl (by decide) (.slice qa ln qc) ln (scells L K) rfl ?how ⟨w3.heap.size, 0, none⟩ 1 1 (scell ⟨(y : Int), Q, []⟩ (.slice none 0 0)) rfl rfl ?c1 ?c2 ?c3 ?c4 ?c5 ?_)
          case how => exact OM.out w3 _ (fun k hk => HW3.out.block k hk) (by omega)
          case c1 => exact news3Le (by go_simp) (by go_simp) (by go_simp)
          case c2 => exact one3Le
          case c3 => unfold maxLen; omega
          case c4 => omega
          case c5 => first | omega | (simp; omega)
          intro v2 w4 own4 grow4 _
          have FIN : Hid (OwnS w2.heap.size (slotsL S H (P.take (i + 1))) (fun j => if j = ln then .slice none 0 0 else K j) v2 w4) := by
            rw [EQ.out]
            exact HST.out w3 w4 (.slice none 0 0) v2 ⟨(y : Int), Q, []⟩ _ (by omega) (fun k hk => HW3.out.block k hk) (World.ownsRow_nil _ _ _ _) grow4 own4
          have hb4 : Below w2.heap.size w3 w4 := ((Below.refl _ w3).alloc (by omega) _).grown grow4 (by simp; omega) (fun k hk => OB.out k hk)
          have HB4 : Hid (Below w2.heap.size w2 w4) := HB3.out.trans hb4
          have cs4 := (hb4.cell (p := ⟨w.heap.size, 0, none⟩) (by show w.heap.size < _; omega)).trans cs3
          have hs4 := HB4.out.size
          clear own4 grow4 hb4 cs3 n0 n1 n2 n3 nf
          go_wp2_with fail
          go_roundg (m - (i + 1))
          case measure => omega
          case rel => exact ⟨i + 1, _, by omega, by omega, by go_num, HB4, cs4, hs4, FIN⟩
        | false =>
          go_wp2_with fail
          refine Calls.mono (KM.out Q _ (HS.out.below (HBW.out.trans (HW3.out.mono HBW.out.size)))) ?_
          rintro e w4 ⟨v1, rfl, hb, own1⟩
          obtain ⟨ga, gc, hv, _⟩ := own_slice own1
          subst hv
          have e1 := keepC n1 hb
          have e2 := keepC n2 hb
          have e3 := keepC n3 hb
          have ef := (hb.frozen (p := ⟨wr.heap.size + 1, 2, none⟩) (by exact z2)).trans nf
          have cs4 := keepC cs3 hb
          have hs4 := hb.size
          have OWN : Hid _ := own1
          have HW4 : Hid (Below wr.heap.size wr w4) := HW3.out.trans (hb.mono (by omega))
          have HB4 : Hid (Below w2.heap.size w2 w4) := HB.out.trans (HW4.out.mono hsz)
          have z4 : wr.heap.size + 1 < w4.heap.size := by omega
          have z5 : w.heap.size < w4.heap.size := by omega
          clear hb own1 n0 n1 n2 n3 nf cs3
          obtain ⟨M, hM⟩ : ∃ M, markedF S H Q = M := ⟨_, rfl⟩
          rw [hM] at OWN EQ ⊢
          obtain ⟨mn, hmn⟩ : ∃ z, M.length = z := ⟨_, rfl⟩
          have HMN : Hid (M.length = mn) := hmn
          rw [hmn] at OWN ⊢
          clear hM hmn
          go_wp2_with (at_builtin; refine wpList_append_own _ rfl _ _ 140 rfl w2.heap.size 143 i0 _ 3 40 Tryz.underlying140 hi0 hz0 hz1 hz2 rfl (by decide) (.slice qa ln qc) ln (scells L K) rfl ?how ⟨w4.heap.size, 0, none⟩ 1 1 (scell ⟨(y : Int), Q, M⟩ (.slice ga mn gc)) rfl rfl ?c1 ?c2 ?c3 ?c4 ?c5 ?_)
          case how => exact OM.out _ _ (fun k hk => (Below.heap_setCell _ _ _ _ (by show k ≠ wr.heap.size + 1; omega)).trans (HW4.out.block k hk)) (by simp [World.setCell]; omega)
          case c1 => exact news3Le (by go_simp) (by go_simp) (by go_simp)
          case c2 => exact one3Le
          case c3 => unfold maxLen; omega
          case c4 => omega
          case c5 => first | omega | (simp [World.setCell]; omega)
          intro v2 w5 own5 grow5 _
          have FIN : Hid (OwnS w2.heap.size (slotsL S H (P.take (i + 1))) (fun j => if j = ln then .slice ga mn gc else K j) v2 w5) := by
            rw [EQ.out]
            refine HST.out _ w5 (.slice ga mn gc) v2 ⟨(y : Int), Q, M⟩ _ (by simp [World.setCell]; omega) (fun k hk => (Below.heap_setCell _ _ _ _ (by show k ≠ wr.heap.size + 1; omega)).trans (HW4.out.block k hk)) ?_ grow5 own5
            have h6 : w4.ownsRow w3.heap.size 3 1 (.slice ga mn gc) mn (M.map (Value.int .i64)) := OWN.out
            show World.ownsRow _ _ _ _ _ M.length _
            rw [HMN.out]
            exact owns_block (ownsRow_baseL h6 (by omega)) (fun k hk => Below.heap_setCell _ _ _ _ (by have := (h6.lt k hk).1; show k ≠ wr.heap.size + 1; omega))
          have hb5 : Below w2.heap.size w4 w5 := (((Below.refl _ w4).setCell (by show w2.heap.size ≤ wr.heap.size + 1; omega) _).alloc (by simp [World.setCell]; omega) _).grown grow5 (by simp [World.setCell]; omega) (fun k hk => OB.out k hk)
          have HB5 : Hid (Below w2.heap.size w2 w5) := HB4.out.trans hb5
          have cs5 := (hb5.cell (p := ⟨w.heap.size, 0, none⟩) (by show w.heap.size < _; omega)).trans cs4
          have hs5 := HB5.out.size
          clear own5 grow5 hb5 cs4 e1 e2 e3 ef
          go_wp2_with fail
          go_roundg (m - (i + 1))
          case measure => omega
          case rel => exact ⟨i + 1, _, by omega, by omega, by go_num, HB5, cs5, hs5, FIN⟩
    · have hie : i = m := by omega
      subst hie
      have FIN : Hid (OwnS w.heap.size (slotsF S H) K (.slice qa (slotsL S H (P.take i)).length qc) wr) := by
        have h := HO.out.base (B' := w.heap.size) (by omega)
        rw [RES.out]
        have e : P.take i = P := List.take_of_length_le (by rw [HM.out]; omega)
        rw [e] at h ⊢
        exact h
      clear HO hsl HF
      generalize (slotsL S H (P.take i)).length = ln at *
      go_wp2
      go_ret
      exact ⟨_, K, rfl, HBW.out, FIN.out⟩
end Go.Proofs.YtgjfmepbphfjoaaGreat

namespace Go.Proofs.YtgjfmepbphfjoaaGreat
open Go.RowKit

/-- A node without children laid into a store of the call's own. -/
theorem Own.nil8 {w : World} {B g : Nat} {S : List Nd} {kb kc : Nat → Nat} {k : Nat} (h : Own w B g S kb kc S.length) (hk : k < S.length) (x : Nd) (hx : x.ks = []) (w3 : World)
    (hup : ∀ b, g ≤ b → b < w.heap.size → w3.heap[b]? = ((((((((w.setCell ⟨g, k * 8, none⟩ (.bool x.u)).setCell ⟨g, k * 8 + 1, none⟩ (.int .i64 x.n)).setCell ⟨g, k * 8 + 2, none⟩ (.int .i64 x.t)).setCell ⟨g, k * 8 + 3, none⟩ (.int .i64 x.m)).setCell ⟨g, k * 8 + 4, none⟩ (.int .i64 x.p)).setCell ⟨g, k * 8 + 5, none⟩ (.slice none 0 0)).setCell ⟨g, k * 8 + 6, none⟩ (.int .i64 x.h)).setCell ⟨g, k * 8 + 7, none⟩ (.bool x.c)).heap[b]?) :
    NdsAt w3 (some ⟨g, 0, none⟩) (S.set k x) := fun i hi => by
  obtain ⟨_, F, hF, hN, hg, _⟩ := h
  rw [List.length_set] at hi
  have hR := (row_set8 hF (k * 8) (.bool x.u) (.int .i64 x.n) (.int .i64 x.t) (.int .i64 x.m) (.int .i64 x.p) (.slice none 0 0) (.int .i64 x.h) (.bool x.c)).of_block (hup g (Nat.le_refl _) hF.lt)
  refine ⟨g, 0, rfl, ?_⟩
  rw [Nat.zero_add, nd_set S k i x hk]
  by_cases e : i = k
  · subst e
    rw [if_pos rfl]
    refine ⟨?_, ?_, ?_, ?_, ?_, ⟨none, 0, ?_, fun j hj => absurd hj (by rw [hx]; exact Nat.not_lt_zero _)⟩, ?_, ?_⟩
    · rw [hR.cell (by omega)]; unfold put8; rw [if_neg (by omega), if_neg (by omega), if_neg (by omega), if_neg (by omega), if_neg (by omega), if_neg (by omega), if_neg (by omega), if_pos rfl]
    · rw [hR.cell (by omega)]; unfold put8; rw [if_neg (by omega), if_neg (by omega), if_neg (by omega), if_neg (by omega), if_neg (by omega), if_neg (by omega), if_pos rfl]
    · rw [hR.cell (by omega)]; unfold put8; rw [if_neg (by omega), if_neg (by omega), if_neg (by omega), if_neg (by omega), if_neg (by omega), if_pos rfl]
    · rw [hR.cell (by omega)]; unfold put8; rw [if_neg (by omega), if_neg (by omega), if_neg (by omega), if_neg (by omega), if_pos rfl]
    · rw [hR.cell (by omega)]; unfold put8; rw [if_neg (by omega), if_neg (by omega), if_neg (by omega), if_pos rfl]
    · rw [hR.cell (by omega), hx]; unfold put8; rw [if_neg (by omega), if_neg (by omega), if_pos rfl]; rfl
    · rw [hR.cell (by omega)]; unfold put8; rw [if_neg (by omega), if_pos rfl]
    · rw [hR.cell (by omega)]; unfold put8; rw [if_pos rfl]
  · rw [if_neg e]
    have hgi := hg i hi
    obtain ⟨e0, e1, e2, e3, e4, e5, e6, e7, e8, e8b, G, hG0, e9⟩ := hN i hi
    have hgn : kb i ≠ g := by omega
    have hG := hG0.of_block (w' := w3) ((hup (kb i) (Nat.le_of_lt hgi) hG0.lt).trans (by
      rw [Below.heap_setCell _ _ _ _ hgn, Below.heap_setCell _ _ _ _ hgn, Below.heap_setCell _ _ _ _ hgn, Below.heap_setCell _ _ _ _ hgn, Below.heap_setCell _ _ _ _ hgn, Below.heap_setCell _ _ _ _ hgn, Below.heap_setCell _ _ _ _ hgn, Below.heap_setCell _ _ _ _ hgn]))
    refine ⟨?_, ?_, ?_, ?_, ?_, ⟨some ⟨kb i, 0, none⟩, kc i, ?_, fun j hj => ⟨kb i, 0, rfl, ?_⟩⟩, ?_, ?_⟩
    · rw [hR.cell (by omega), put8_other (by omega), e0]
    · rw [hR.cell (by omega), put8_other (by omega), e1]
    · rw [hR.cell (by omega), put8_other (by omega), e2]
    · rw [hR.cell (by omega), put8_other (by omega), e3]
    · rw [hR.cell (by omega), put8_other (by omega), e4]
    · rw [hR.cell (by omega), put8_other (by omega), e5]
    · rw [Nat.zero_add, hG.cell (by omega), e9 j hj]
    · rw [hR.cell (by omega), put8_other (by omega), e6]
    · rw [hR.cell (by omega), put8_other (by omega), e7]

theorem free_low {w w1 : World} {v : Value} {x y : Int} (hb : Below (w.heap.size + 1 + 1 + 1) (((w.alloc (.cells #[v] 24)).alloc (.cells #[.int .i64 x, .int .i64 y] 39)).alloc (.cells #[.slice none 0 0] 24)) w1) :
    w1.cell? ⟨w.heap.size, 0, none⟩ = some v ∧ w1.cell? ⟨w.heap.size + 1, 0, none⟩ = some (.int .i64 x) ∧ w1.cell? ⟨w.heap.size + 1, 1, none⟩ = some (.int .i64 y) ∧ w1.cell? ⟨w.heap.size + 1 + 1, 0, none⟩ = some (.slice none 0 0) ∧ w1.frozen? ⟨w.heap.size + 1 + 1, 0, none⟩ = false :=
  ⟨(hb.cell (by simp; omega)).trans (by go_simp), (hb.cell (by simp)).trans (by go_simp), (hb.cell (by simp)).trans (by go_simp), (hb.cell (by simp)).trans (by go_simp), (hb.frozen (by simp)).trans (by go_simp)⟩

theorem free_mid {B : Nat} {W w1 w2 : World} {a0 a1 a2 a3 a4 a5 a6 a7 : Value} (hb1 : Below B W w1) (hs : B ≤ w1.heap.size) (hb2 : Below (w1.heap.size + 1) (w1.alloc (.cells #[a0, a1, a2, a3, a4, a5, a6, a7] 47)) w2) :
    Below B W w2 ∧ w2.cell? ⟨w1.heap.size, 0, none⟩ = some a0 ∧ w2.cell? ⟨w1.heap.size, 1, none⟩ = some a1 ∧ w2.cell? ⟨w1.heap.size, 2, none⟩ = some a2 ∧ w2.cell? ⟨w1.heap.size, 3, none⟩ = some a3 ∧ w2.cell? ⟨w1.heap.size, 4, none⟩ = some a4 ∧ w2.cell? ⟨w1.heap.size, 5, none⟩ = some a5 ∧ w2.cell? ⟨w1.heap.size, 6, none⟩ = some a6 ∧ w2.cell? ⟨w1.heap.size, 7, none⟩ = some a7 :=
  ⟨(hb1.alloc hs _).trans (hb2.mono (by omega)), (hb2.cell (by simp)).trans (by go_simp), (hb2.cell (by simp)).trans (by go_simp), (hb2.cell (by simp)).trans (by go_simp), (hb2.cell (by simp)).trans (by go_simp), (hb2.cell (by simp)).trans (by go_simp), (hb2.cell (by simp)).trans (by go_simp), (hb2.cell (by simp)).trans (by go_simp), (hb2.cell (by simp)).trans (by go_simp)⟩

set_option maxHeartbeats 1000000 in
theorem free_err (a : Option Addr) (c : Nat) (S : List Nd) (p u E : Int) (w : World) (hN : S.length ≤ 9223372036854775807) (hB : Big S) (hS : NdsAt w a S) (hE : findE S p u = E) (hE0 : E ≠ 0) :
    Calls Tryz.prog 57 #[.agg #[.slice a S.length c], .agg #[.int .i64 p, .int .i64 u]] w fun e w' => e = .returned (.tuple #[.agg #[.slice none 0 0], .int .i64 E]) ∧ Below w.heap.size w w' := by
  have D1 : Hid (∀ W, NdsAt W a S → Calls _ _ _ _ _) := fun W hW => find_err a c S p u E W hN hB hW hE hE0
  have HS : Hid (NdsAt w a S) := hS
  have hz : (E == 0) = false := by simp [hE0]
  clear hS hE hB hN
  generalize S.length = n at *
  go_enter Tryz.func57, Tryz.ntmps57
  go_wp2_with (go_at_call 10; refine (D1.out _ (HS.out.below (three_below _ _ _ _))).mono ?_; rintro e w1 ⟨rfl, hb1⟩; simp only [World.size_alloc] at hb1; obtain ⟨l0, l1, l2, l3, z3⟩ := free_low hb1; have hs1 := hb1.size; simp only [World.size_alloc] at hs1; have q0 : w.heap.size < w1.heap.size := (by omega); have q1 : w.heap.size + 1 < w1.heap.size := (by omega); have q2 : w.heap.size + 1 + 1 < w1.heap.size := (by omega))
  refine bodyPost_ret (v := .tuple #[.agg #[.slice none 0 0], .int .i64 E]) (by simp only [results, Tryz.results57]; go_simp) rfl ⟨rfl, ?_⟩
  have hbo : Below w.heap.size w w1 := (three_below _ _ _ _).trans (hb1.mono (by omega))
  first | exact (hbo.setCell (by simp; omega) _).alloc (by simp; omega) _ | exact (hbo.alloc (by omega) _).setCell (by simp; omega) _ | exact hbo.setCell (by simp; omega) _

set_option maxHeartbeats 2000000 in
theorem free_tree (a : Option Addr) (c : Nat) (S : List Nd) (k : Nat) (u : Int) (w : World) (hN : S.length ≤ 9223372036854775807) (hB : Big S) (hS : NdsAt w a S) (hk : k < S.length) (hF : findE S k u = 0) (hK : (nd S k).ks.length ≤ 1000000) (hT : ¬ looseB S k) :
    Calls Tryz.prog 57 #[.agg #[.slice a S.length c], .agg #[.int .i64 k, .int .i64 u]] w fun e w' => e = .returned (.tuple #[.agg #[.slice none 0 0], .int .i64 6]) ∧ Below w.heap.size w w' := by
  have D1 : Hid (∀ W, NdsAt W a S → Calls _ _ _ _ _) := fun W hW => find_ok a c S k u W (by omega) hB hW hk hF hK
  obtain ⟨r, hr⟩ : ∃ r, rightUnder (nd S k) = r := ⟨_, rfl⟩
  obtain ⟨hb0, hhb⟩ : ∃ b, hostB S k = b := ⟨_, rfl⟩
  have d2 := fun (v : Value) W => rightUnder_any (nd S k) v W
  rw [show (if (nd S k).h = -1 then (nd S k).p else (nd S k).h) = r from hr] at d2
  have D2 : Hid _ := d2
  have d3 := fun W hW => isHost_any a c S (k : Int) W (by omega) hW (by omega)
  rw [hhb] at d3
  have D3 : Hid _ := d3
  have HS : Hid (NdsAt w a S) := hS
  have hT2 : r ≠ -1 ∨ (r = -1 ∧ (nd S k).ks.length ≠ 0) ∨ (r = -1 ∧ (nd S k).ks.length = 0 ∧ hb0 = true) := by
    unfold looseB at hT
    rw [hr, hhb] at hT
    by_cases h1 : r = -1
    · by_cases h2 : (nd S k).ks = []
      · refine Or.inr (Or.inr ⟨h1, by rw [h2]; rfl, ?_⟩)
        cases hb0 with
        | true => rfl
        | false => exact absurd ⟨h1, h2, rfl⟩ hT
      · refine Or.inr (Or.inl ⟨h1, fun h => h2 (List.length_eq_zero_iff.1 h)⟩)
    · exact Or.inl h1
  clear hS d2 d3 hF hB hT hr hhb
  generalize nd S k = x at *
  obtain ⟨xu, xn, xt, xm, xp, xks, xh, xc⟩ := x
  dsimp only at *
  generalize xks.length = L at *
  generalize S.length = n at *
  rcases hT2 with h1 | ⟨rfl, h2⟩ | ⟨rfl, rfl, rfl⟩
  · have hz : (r == -1) = false := by simp [h1]
    go_enter Tryz.func57, Tryz.ntmps57
    go_wp2_with (go_at_call 10; refine (D1.out _ (HS.out.below (three_below _ _ _ _))).mono ?_; rintro e w1 ⟨kg, rfl, hb1, hkg⟩; clear hkg; simp only [World.size_alloc] at hb1; obtain ⟨l0, l1, l2, l3, z3⟩ := free_low hb1; have hs1 := hb1.size; simp only [World.size_alloc] at hs1; have q0 : w.heap.size < w1.heap.size := (by omega); have q1 : w.heap.size + 1 < w1.heap.size := (by omega); have q2 : w.heap.size + 1 + 1 < w1.heap.size := (by omega))
    refine (D2.out _ _).mono ?_
    rintro e w2 ⟨rfl, hb2⟩
    simp only [World.size_alloc] at hb2
    obtain ⟨hb12, n0, n1, n2, n3, n4, n5, n6, n7⟩ := free_mid hb1 hs1 hb2
    have hs2 := hb2.size
    simp only [World.size_alloc] at hs2
    clear l0 l1 l2 l3 z3
    obtain ⟨l0, l1, l2, l3, z3⟩ := free_low hb12
    have HBO : Hid (Below w.heap.size w w2) := (three_below _ _ _ _).trans (hb12.mono (by omega))
    have HB1 : Hid _ := hb1
    have HB2 : Hid _ := hb2
    have q3 : w1.heap.size < w2.heap.size := by omega
    clear hb1 hb2 hb12
    go_wp2
    refine bodyPost_ret (v := .tuple #[.agg #[.slice none 0 0], .int .i64 6]) (by simp only [results, Tryz.results57]; go_simp) rfl ⟨rfl, ?_⟩
    first | exact HBO.out.setCell (by simp; omega) _ | exact (HBO.out.setCell (by simp; omega) _).drew | exact (HBO.out.alloc (by simp; omega) _).setCell (by simp; omega) _ | exact (HBO.out.setCell (by simp; omega) _).alloc (by simp; omega) _
  · have hz : decide ((0 : Int) < (L : Int)) = true := decide_eq_true (by omega)
    have hz2 : (0 : Int) < (L : Int) := by omega
    go_enter Tryz.func57, Tryz.ntmps57
    go_wp2_with (go_at_call 10; refine (D1.out _ (HS.out.below (three_below _ _ _ _))).mono ?_; rintro e w1 ⟨kg, rfl, hb1, hkg⟩; clear hkg; simp only [World.size_alloc] at hb1; obtain ⟨l0, l1, l2, l3, z3⟩ := free_low hb1; have hs1 := hb1.size; simp only [World.size_alloc] at hs1; have q0 : w.heap.size < w1.heap.size := (by omega); have q1 : w.heap.size + 1 < w1.heap.size := (by omega); have q2 : w.heap.size + 1 + 1 < w1.heap.size := (by omega))
    refine (D2.out _ _).mono ?_
    rintro e w2 ⟨rfl, hb2⟩
    simp only [World.size_alloc] at hb2
    obtain ⟨hb12, n0, n1, n2, n3, n4, n5, n6, n7⟩ := free_mid hb1 hs1 hb2
    have hs2 := hb2.size
    simp only [World.size_alloc] at hs2
    clear l0 l1 l2 l3 z3
    obtain ⟨l0, l1, l2, l3, z3⟩ := free_low hb12
    have HBO : Hid (Below w.heap.size w w2) := (three_below _ _ _ _).trans (hb12.mono (by omega))
    have HB1 : Hid _ := hb1
    have HB2 : Hid _ := hb2
    have q3 : w1.heap.size < w2.heap.size := by omega
    clear hb1 hb2 hb12
    go_wp2
    refine bodyPost_ret (v := .tuple #[.agg #[.slice none 0 0], .int .i64 6]) (by simp only [results, Tryz.results57]; go_simp) rfl ⟨rfl, ?_⟩
    first | exact HBO.out.setCell (by simp; omega) _ | exact (HBO.out.setCell (by simp; omega) _).drew | exact (HBO.out.alloc (by simp; omega) _).setCell (by simp; omega) _ | exact (HBO.out.setCell (by simp; omega) _).alloc (by simp; omega) _
  · go_enter Tryz.func57, Tryz.ntmps57
    go_wp2_with (go_at_call 10; refine (D1.out _ (HS.out.below (three_below _ _ _ _))).mono ?_; rintro e w1 ⟨kg, rfl, hb1, hkg⟩; clear hkg; simp only [World.size_alloc] at hb1; obtain ⟨l0, l1, l2, l3, z3⟩ := free_low hb1; have hs1 := hb1.size; simp only [World.size_alloc] at hs1; have q0 : w.heap.size < w1.heap.size := (by omega); have q1 : w.heap.size + 1 < w1.heap.size := (by omega); have q2 : w.heap.size + 1 + 1 < w1.heap.size := (by omega))
    refine (D2.out _ _).mono ?_
    rintro e w2 ⟨rfl, hb2⟩
    simp only [World.size_alloc] at hb2
    obtain ⟨hb12, n0, n1, n2, n3, n4, n5, n6, n7⟩ := free_mid hb1 hs1 hb2
    have hs2 := hb2.size
    simp only [World.size_alloc] at hs2
    clear l0 l1 l2 l3 z3
    obtain ⟨l0, l1, l2, l3, z3⟩ := free_low hb12
    have HBO : Hid (Below w.heap.size w w2) := (three_below _ _ _ _).trans (hb12.mono (by omega))
    have HB1 : Hid _ := hb1
    have HB2 : Hid _ := hb2
    have q3 : w1.heap.size < w2.heap.size := by omega
    clear hb1 hb2 hb12
    go_wp2_with fail
    refine (D3.out _ (HS.out.below HBO.out)).mono ?_
    rintro e w3 ⟨rfl, hb3⟩
    have hs3 := hb3.size
    have HBO3 : Hid (Below w.heap.size w w3) := HBO.out.trans (hb3.mono (by have := HBO.out.size; omega))
    have hb23 := HB2.out.trans (hb3.mono hs2)
    clear l0 l1 l2 l3 z3 n0 n1 n2 n3 n4 n5 n6 n7 hb3 HB2
    obtain ⟨hb13, n0, n1, n2, n3, n4, n5, n6, n7⟩ := free_mid HB1.out hs1 hb23
    obtain ⟨l0, l1, l2, l3, z3⟩ := free_low hb13
    have r1 : w1.heap.size < w3.heap.size := by omega
    have r2 : w.heap.size < w3.heap.size := by omega
    have r3 : w.heap.size + 1 < w3.heap.size := by omega
    have r4 : w.heap.size + 1 + 1 < w3.heap.size := by omega
    have HB23 : Hid _ := hb23
    clear hb13 hb23
    go_wp2
    refine bodyPost_ret (v := .tuple #[.agg #[.slice none 0 0], .int .i64 6]) (by simp only [results, Tryz.results57]; go_simp) rfl ⟨rfl, ?_⟩
    first | exact HBO3.out.setCell (by simp; omega) _ | exact (HBO3.out.setCell (by simp; omega) _).drew | exact (HBO3.out.alloc (by simp; omega) _).setCell (by simp; omega) _ | exact (HBO3.out.setCell (by simp; omega) _).alloc (by simp; omega) _

end Go.Proofs.YtgjfmepbphfjoaaGreat
