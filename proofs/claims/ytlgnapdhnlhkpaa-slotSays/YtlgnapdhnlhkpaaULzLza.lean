/-
  slices.EqualFunc over two rows of slots that read alike, with SlotSays$1.
-/
import Derived.Test.YtlgnapdhnlhkpaaULxLy
import Derived.Deep.RegionHeld3
namespace Go.Proofs.Ytlgnapdhnlhkpaa
open Go.RowKit
set_option linter.unusedVariables false

set_option maxHeartbeats 800000 in
theorem says1_same (x : Slt) (ka ka' : Option Addr) (kc kc' : Nat) (W : World) (hbig : x.gv.length ≤ 9223372036854775807) (h1 : IntsAt W ka x.gv) (h2 : IntsAt W ka' x.gv) :
    Calls Try.prog 15 #[.agg #[.int .i64 x.pl, .int .i64 x.num, .slice ka x.gv.length kc], .agg #[.int .i64 x.pl, .int .i64 x.num, .slice ka' x.gv.length kc']] W fun e w' => e = .returned (.bool true) ∧ Below W.heap.size W w' := by
  have d := fun (w' : World) (i1 : IntsAt w' ka x.gv) (i2 : IntsAt w' ka' x.gv) => equal_any ka ka' kc kc' x.gv x.gv w' hbig i1 i2
  rw [decide_eq_true (rfl : x.gv = x.gv)] at d
  have D : Hid _ := d
  have I1 : Hid (∀ o1 o2, IntsAt ((W.alloc o1).alloc o2) ka x.gv) := fun o1 o2 => h1.below (two_belowS _ _ _)
  have I2 : Hid (∀ o1 o2, IntsAt ((W.alloc o1).alloc o2) ka' x.gv) := fun o1 o2 => h2.below (two_belowS _ _ _)
  clear h1 h2 d
  obtain ⟨xp, xn, xks⟩ := x
  dsimp only at D I1 I2 ⊢
  obtain ⟨xl, hxl⟩ : ∃ z, xks.length = z := ⟨_, rfl⟩
  rw [hxl] at D
  rw [hxl]
  clear hxl hbig
  go_enter Try.func15, Try.ntmps15
  go_wp2_with fail
  refine Calls.mono (D.out _ (I1.out _ _) (I2.out _ _)) ?_
  rintro e w1 ⟨rfl, hb⟩
  have HB : Hid (Below W.heap.size W w1) := (two_belowS _ _ _).trans (hb.mono (by simp; omega))
  clear hb
  go_wp2
  go_ret
  exact ⟨rfl, HB.out⟩

set_option maxHeartbeats 1000000 in
theorem equalSlots_same (a a' : Option Addr) (c c' : Nat) (L : List Slt) (w : World) (hN : L.length ≤ 24) (hB : ∀ i, i < L.length → (slt L i).gv.length ≤ 24) (h1 : SltsAt w a L) (h2 : SltsAt w a' L) :
    Calls Try.prog 13 #[.slice a L.length c, .slice a' L.length c', .func (.func 15) #[] #[]] w fun e w' => e = .returned (.bool true) ∧ Below w.heap.size w w' := by
  have eg := enters_of Try.func15 (by kernel_rfl) rfl
  have H1 : Hid (SltsAt w a L) := h1
  have H2 : Hid (SltsAt w a' L) := h2
  have HB : Hid (∀ i, i < L.length → (slt L i).gv.length ≤ 24) := hB
  clear h1 h2 hB
  obtain ⟨n, hn⟩ : ∃ n, L.length = n := ⟨_, rfl⟩
  have HN : Hid (L.length = n) := hn
  rw [hn] at hN ⊢
  clear hn
  go_enter Try.func13, Try.ntmps13
  go_wp2
  go_loopg [17] n (fun g s17 wr => ∃ k : Nat, k ≤ n ∧ n - k ≤ g ∧ s17 = .int .i64 k ∧ Below w.heap.size w wr)
  case atStart => exact ⟨0, by omega, by omega, rfl, Below.refl _ _⟩
  case round =>
    obtain ⟨k, hk, hg, rfl, hb⟩ := hrel
    by_cases hlt : k < n
    · have hlt2 : (k : Int) < (n : Int) := by omega
      obtain ⟨b, o, rfl, c0, c1, ka, kc, c5, hk1⟩ := (H1.out.below hb) k (by rw [HN.out]; exact hlt)
      obtain ⟨b', o', rfl, e0, e1, ka', kc', e5, hk2⟩ := (H2.out.below hb) k (by rw [HN.out]; exact hlt)
      have hbb := World.block_lt_of_cell? _ _ c0
      have hbb' := World.block_lt_of_cell? _ _ e0
      have d1 := fun o1 o2 => says1_same (slt L k) ka ka' kc kc' ((wr.alloc o1).alloc o2) (by have := HB.out k (by rw [HN.out]; exact hlt); omega) (hk1.below (two_belowS _ _ _)) (hk2.below (two_belowS _ _ _))
      clear hk1 hk2
      have D1 : Hid _ := d1
      clear d1
      generalize slt L k = x at *
      obtain ⟨xp, xn, xks⟩ := x
      dsimp only at c0 c1 c5 e0 e1 e5 D1
      obtain ⟨xl, hxl⟩ : ∃ z, xks.length = z := ⟨_, rfl⟩
      rw [hxl] at D1 c5 e5
      clear hxl
      go_wp2_with fail
      refine (D1.out _ _).mono ?_
      rintro e w3 ⟨rfl, hb3⟩
      have HB3 : Hid (Below w.heap.size w w3) := (hb.trans ((two_belowS _ _ _).mono hb.size)).trans (hb3.mono (by simp; have := hb.size; omega))
      clear hb3
      go_wp2
      go_roundg (n - (k + 1))
      case measure => omega
      case rel => exact ⟨k + 1, by omega, by omega, by go_num, HB3.out⟩
    · have : k = n := by omega
      subst this
      go_wp2
      go_ret
      exact ⟨rfl, hb⟩
end Go.Proofs.Ytlgnapdhnlhkpaa

namespace Go.Proofs.Ytlgnapdhnlhkpaa
open Go.RowKit
set_option linter.unusedVariables false

theorem ints_nilS (w : World) (a : Option Addr) : IntsAt w a [] := fun i hi => absurd hi (by simp)

set_option maxRecDepth 100000 in
set_option maxHeartbeats 2000000 in
theorem slotSays_err (a : Option Addr) (c : Nat) (S : List Nd) (p u E : Int) (w : World) (hN : S.length ≤ 9223372036854775807) (hB : Big S) (hC : RChk a c S) (hS : NdsAt w a S) (hE : findE S p u = E) (hE0 : E ≠ 0) :
    Calls Try.prog 3 #[.agg #[.slice a S.length c], .agg #[.int .i64 p, .int .i64 u]] w fun e w' => e = .returned (.bool true) ∧ Below w.heap.size w w' := by
  have D1 : Hid (∀ W, NdsAt W a S → Calls _ _ _ _ _) := fun W hW => slots_err a c S p u E W hN hB hW hE hE0
  have D2 : Hid (∀ W, NdsAt W a S → Calls _ _ _ _ _) := fun W hW => given_err a c S p u E W hN hB hW hE hE0
  have D3 : Hid (∀ W, NdsAt W a S → Calls _ _ _ _ _) := fun W hW => flat_err a c S p u E W hN hB hW hE hE0
  have D4 : Hid (∀ W, NdsAt W a S → Calls _ _ _ _ _) := fun W hW => rFlat_err a c S p u E W hN hC hW ((tcheck_is_findT S p u).trans hE) hE0
  have d5 := fun (W : World) => equal_any none none 0 0 [] [] W (by simp) (ints_nilS W none) (ints_nilS W none)
  simp only [List.length_nil, decide_true] at d5
  have D5 : Hid _ := d5
  have DP : Hid PlacedOk := placed_ok
  have HS : Hid (NdsAt w a S) := hS
  have e1 : (E == 0) = false := beq_eq_false_iff_ne.2 hE0
  have e2 : decide (E = 0) = false := decide_eq_false hE0
  clear hS hE hB hC d5
  generalize S.length = n at *
  go_enter Try.func3, Try.ntmps3
  go_wp2_with fail
  refine Calls.mono (D1.out _ (HS.out.below (two_belowS _ _ _))) ?_
  rintro e w1 ⟨rfl, hb⟩
  have l0 := keepC (alloc_cell1 w #[.slice a n c] 24 0 (.cells #[.int .i64 p, .int .i64 u] 26) rfl) hb
  have l1 := keepC (alloc_cell2 w #[.int .i64 p, .int .i64 u] 26 0 (.cells #[.slice a n c] 24) rfl) hb
  have l2 := keepC (alloc_cell2 w #[.int .i64 p, .int .i64 u] 26 1 (.cells #[.slice a n c] 24) rfl) hb
  have HB1 : Hid (Below w.heap.size w w1) := (two_belowS w _ _).trans (hb.mono (by simp; omega))
  clear hb
  go_wp2_with fail
  refine Calls.mono (D2.out _ (HS.out.below HB1.out)) ?_
  rintro e w2 ⟨rfl, hb⟩
  have HB2 : Hid (Below w.heap.size w w2) := HB1.out.trans (hb.mono HB1.out.size)
  have m0 := keepC l0 hb
  have m1 := keepC l1 hb
  have m2 := keepC l2 hb
  clear hb l0 l1 l2
  go_wp2_with fail
  refine Calls.mono (D3.out _ (HS.out.below HB2.out)) ?_
  rintro e w3 ⟨rfl, hb⟩
  have HB3 : Hid (Below w.heap.size w w3) := HB2.out.trans (hb.mono HB2.out.size)
  have l0 := keepC m0 hb
  have l1 := keepC m1 hb
  have l2 := keepC m2 hb
  clear hb m0 m1 m2
  go_wp2_with fail
  refine Calls.mono (D4.out _ (HS.out.below HB3.out)) ?_
  rintro e w4 ⟨rfl, hb⟩
  have HB4 : Hid (Below w.heap.size w w4) := HB3.out.trans (hb.mono HB3.out.size)
  clear hb l0 l1 l2
  go_wp2_with fail
  refine Calls.mono (DP.out _) ?_
  rintro e w5 ⟨rfl, hb⟩
  have HB5 : Hid (Below w.heap.size w w5) := HB4.out.trans (hb.mono HB4.out.size)
  clear hb
  go_wp2_with fail
  refine Calls.mono (D5.out _) ?_
  rintro e w6 ⟨rfl, hb⟩
  have HB6 : Hid (Below w.heap.size w w6) := HB5.out.trans (hb.mono HB5.out.size)
  clear hb
  go_wp2_with fail
  go_ret
  exact ⟨rfl, HB6.out⟩

set_option maxRecDepth 100000 in
set_option maxHeartbeats 4000000 in
theorem slotSays_ok (a : Option Addr) (c : Nat) (S : List Nd) (k : Nat) (u : Int) (w : World) (wf : WF S) (hC : RChk a c S) (hS : NdsAt w a S) (hk : k < S.length) (hE : findE S k u = 0) :
    Calls Try.prog 3 #[.agg #[.slice a S.length c], .agg #[.int .i64 (k : Int), .int .i64 u]] w fun e w' => e = .returned (.bool true) ∧ Below w.heap.size w w' := by
  have hN := wf.small
  have D1 : Hid (∀ W, NdsAt W a S → Calls Try.prog 6 #[.agg #[.slice a S.length c], .agg #[.int .i64 (k : Int), .int .i64 u]] W fun e w' => ∃ qa qc, e = .returned (.tuple #[.slice qa (slotsF S k).length qc, .int .i64 0]) ∧ Below W.heap.size W w' ∧ SltsAt w' qa (slotsF S k)) := fun W hW => (slots_ok a c S k u W wf hW hk hE).mono (by
    rintro e w' ⟨v, K, rfl, hb, hO⟩
    obtain ⟨qa, qc, rfl, hs⟩ := OwnS.slts hO
    exact ⟨qa, qc, rfl, hb, hs⟩)
  have D2 : Hid (∀ W, NdsAt W a S → Calls _ _ _ _ _) := fun W hW => given_ok a c S k u W wf hW hk hE
  have D3 : Hid (∀ W, NdsAt W a S → Calls _ _ _ _ _) := fun W hW => flat_ok a c S k u W wf hW hk hE
  have D4 : Hid (∀ W, NdsAt W a S → Calls Try.prog 9 #[.agg #[.slice a S.length c], .agg #[.int .i64 (k : Int), .int .i64 u]] W fun e w' => ∃ sa sc, e = .returned (.tuple #[.slice sa (flatF S k).length sc, .int .i64 0]) ∧ Below W.heap.size W w' ∧ IntsAt w' sa (flatF S k)) := fun W hW => (rFlat_ok a c S k u W wf hC hW hk ((tcheck_is_findT S k u).trans hE)).mono (by
    rintro e w' ⟨v, rfl, hb, hown⟩
    obtain ⟨sa, sc, rfl, hi⟩ := ints_own hown
    exact ⟨sa, sc, rfl, hb, hi⟩)
  have FL : (flatF S k).length ≤ 24 := by have := flatF_le wf hk; omega
  have d5 := fun (sa sa' : Option Addr) (sc sc' : Nat) (W : World) (h1 : IntsAt W sa (flatF S k)) (h2 : IntsAt W sa' (flatF S k)) => equal_any sa sa' sc sc' _ _ W (by omega) h1 h2
  simp only [decide_true] at d5
  have D5 : Hid _ := d5
  have D6 : Hid (∀ W, NdsAt W a S → Calls _ _ _ _ _) := fun W hW => rTo_any a c S k W wf hC hk hW
  have D7 : Hid (∀ W, NdsAt W a S → Calls Try.prog 14 #[.agg #[.slice a S.length c], .int .i64 (k : Int)] W fun e w' => ∃ qa qc, e = .returned (.slice qa (slotsF S k).length qc) ∧ Below W.heap.size W w' ∧ SltsAt w' qa (slotsF S k)) := fun W hW => (rSlots_all a c S k W wf hC hk hW).mono (by
    rintro e w' ⟨v, K, rfl, hb, hO⟩
    obtain ⟨qa, qc, rfl, hs⟩ := OwnS.slts hO
    exact ⟨qa, qc, rfl, hb, hs⟩)
  have LL : (slotsF S k).length ≤ 24 := slotsF_few wf k
  have LG : ∀ j, j < (slotsF S k).length → (slt (slotsF S k) j).gv.length ≤ 24 := fun j hj => by
    have hm : slt (slotsF S k) j ∈ slotsF S k := by rw [slt_elem hj]; exact List.getElem_mem hj
    obtain ⟨_, _, _, _, _, _, _, _, _, _, _, r6, _⟩ := slotsF_mem wf hm
    rcases r6 with e2 | e2
    · rw [e2]; simp
    · rw [e2]
      have h1 := wf.kids_small hk
      unfold markedF flt
      exact Nat.le_trans (List.length_filter_le _ _) h1
  have D8 : Hid (∀ qa qa' qc qc' W, SltsAt W qa (slotsF S k) → SltsAt W qa' (slotsF S k) → Calls _ _ _ _ _) := fun qa qa' qc qc' W h1 h2 => equalSlots_same qa qa' qc qc' _ W LL LG h1 h2
  have DP : Hid PlacedOk := placed_ok
  have HS : Hid (NdsAt w a S) := hS
  clear hS hE wf hC LG d5 hk
  generalize flatF S k = F at *
  generalize slotsF S k = L at *
  generalize toF S k = T at *
  generalize F.length = fl at *
  generalize L.length = ll at *
  generalize S.length = n at *
  go_enter Try.func3, Try.ntmps3
  go_wp2_with fail
  refine Calls.mono (D1.out _ (HS.out.below (two_belowS _ _ _))) ?_
  rintro e w1 ⟨qa, qc, rfl, hb, hI⟩
  have l0 := keepC (alloc_cell1 w #[.slice a n c] 24 0 (.cells #[.int .i64 (k : Int), .int .i64 u] 26) rfl) hb
  have l1 := keepC (alloc_cell2 w #[.int .i64 (k : Int), .int .i64 u] 26 0 (.cells #[.slice a n c] 24) rfl) hb
  have l2 := keepC (alloc_cell2 w #[.int .i64 (k : Int), .int .i64 u] 26 1 (.cells #[.slice a n c] 24) rfl) hb
  have HB1 : Hid (Below w.heap.size w w1) := (two_belowS w _ _).trans (hb.mono (by simp; omega))
  have HQ1 : Hid (SltsAt w1 qa L) := hI
  clear hb hI
  go_wp2_with fail
  refine Calls.mono (D2.out _ (HS.out.below HB1.out)) ?_
  rintro e w2 ⟨rfl, hb⟩
  have HB2 : Hid (Below w.heap.size w w2) := HB1.out.trans (hb.mono HB1.out.size)
  have HQ2 : Hid (SltsAt w2 qa L) := HQ1.out.below hb
  have m0 := keepC l0 hb
  have m1 := keepC l1 hb
  have m2 := keepC l2 hb
  clear hb l0 l1 l2 HQ1
  go_wp2_with fail
  refine Calls.mono (D3.out _ (HS.out.below HB2.out)) ?_
  rintro e w3 ⟨fa, fc, rfl, hb, hI⟩
  have HB3 : Hid (Below w.heap.size w w3) := HB2.out.trans (hb.mono HB2.out.size)
  have HQ3 : Hid (SltsAt w3 qa L) := HQ2.out.below hb
  have HF3 : Hid (IntsAt w3 fa F) := hI
  have l0 := keepC m0 hb
  have l1 := keepC m1 hb
  have l2 := keepC m2 hb
  clear hb m0 m1 m2 hI HQ2
  go_wp2_with fail
  refine Calls.mono (D4.out _ (HS.out.below HB3.out)) ?_
  rintro e w4 ⟨ga, gc, rfl, hb, hI⟩
  have HB4 : Hid (Below w.heap.size w w4) := HB3.out.trans (hb.mono HB3.out.size)
  have HQ4 : Hid (SltsAt w4 qa L) := HQ3.out.below hb
  have HF4 : Hid (IntsAt w4 fa F) := HF3.out.below hb
  have HG4 : Hid (IntsAt w4 ga F) := hI
  have m0 := keepC l0 hb
  have m1 := keepC l1 hb
  have m2 := keepC l2 hb
  clear hb l0 l1 l2 hI HQ3 HF3
  go_wp2_with fail
  refine Calls.mono (DP.out _) ?_
  rintro e w5 ⟨rfl, hb⟩
  have HB5 : Hid (Below w.heap.size w w5) := HB4.out.trans (hb.mono HB4.out.size)
  have HQ5 : Hid (SltsAt w5 qa L) := HQ4.out.below hb
  have HF5 : Hid (IntsAt w5 fa F) := HF4.out.below hb
  have HG5 : Hid (IntsAt w5 ga F) := HG4.out.below hb
  have l0 := keepC m0 hb
  have l1 := keepC m1 hb
  have l2 := keepC m2 hb
  clear hb m0 m1 m2 HQ4 HF4 HG4
  go_wp2_with fail
  refine Calls.mono (D5.out _ _ _ _ _ HF5.out HG5.out) ?_
  rintro e w6 ⟨rfl, hb⟩
  have HB6 : Hid (Below w.heap.size w w6) := HB5.out.trans (hb.mono HB5.out.size)
  have HQ6 : Hid (SltsAt w6 qa L) := HQ5.out.below hb
  have m0 := keepC l0 hb
  have m1 := keepC l1 hb
  clear hb l0 l1 l2 HQ5 HF5 HG5
  go_wp2_with fail
  refine Calls.mono (D6.out _ (HS.out.below HB6.out)) ?_
  rintro e w7 ⟨rfl, hb⟩
  have HB7 : Hid (Below w.heap.size w w7) := HB6.out.trans (hb.mono HB6.out.size)
  have HQ7 : Hid (SltsAt w7 qa L) := HQ6.out.below hb
  have l0 := keepC m0 hb
  have l1 := keepC m1 hb
  clear hb m0 m1 HQ6
  go_wp2_with fail
  refine Calls.mono (D7.out _ (HS.out.below HB7.out)) ?_
  rintro e w8 ⟨qa2, qc2, rfl, hb, hI⟩
  have HB8 : Hid (Below w.heap.size w w8) := HB7.out.trans (hb.mono HB7.out.size)
  have HQ8 : Hid (SltsAt w8 qa L) := HQ7.out.below hb
  have HQ9 : Hid (SltsAt w8 qa2 L) := hI
  clear hb l0 l1 hI HQ7
  go_wp2_with fail
  refine Calls.mono (D8.out _ _ _ _ _ HQ8.out HQ9.out) ?_
  rintro e w9 ⟨rfl, hb⟩
  have HB9 : Hid (Below w.heap.size w w9) := HB8.out.trans (hb.mono HB8.out.size)
  clear hb
  go_wp2_with fail
  go_ret
  exact ⟨rfl, HB9.out⟩

theorem slotSays_any (a : Option Addr) (c : Nat) (S : List Nd) (p u : Int) (w : World) (hN : S.length ≤ 9223372036854775807) (hB : Big S) (hC : RChk a c S) (hS : NdsAt w a S) :
    Calls Try.prog 3 #[.agg #[.slice a S.length c], .agg #[.int .i64 p, .int .i64 u]] w fun e w' => e = .returned (.bool true) ∧ Below w.heap.size w w' := by
  by_cases hE : findE S p u = 0
  · obtain ⟨wf, k, rfl, hk, _⟩ := tcheck_one ((tcheck_is_findT S p u).trans hE)
    exact slotSays_ok a c S k u w wf hC hS hk hE
  · exact slotSays_err a c S p u _ w hN hB hC hS rfl hE
end Go.Proofs.Ytlgnapdhnlhkpaa
