/-
  The contracts of query.Fits and query.Find.
-/
import Derived.Test.YtgjfmepbphfjoaaGreatUVeVfLe
namespace Go.Proofs.YtgjfmepbphfjoaaGreat
open Go.RowKit

theorem qcheck_len {q : List Tst} (h : qcheckE q = 0) : 1 ≤ q.length ∧ q.length ≤ 6 := by
  unfold qcheckE at h
  split at h
  · rename_i hb
    have := of_decide_eq_true hb
    omega
  · omega

theorem fits_low {w w1 : World} {a : Option Addr} {n c : Nat} {p u : Int} (hb : Below (w.heap.size + 1 + 1) ((w.alloc (.cells #[.slice a n c] 24)).alloc (.cells #[.int .i64 p, .int .i64 u] 39)) w1) :
    w1.cell? ⟨w.heap.size, 0, none⟩ = some (.slice a n c) ∧ w1.cell? ⟨w.heap.size + 1, 0, none⟩ = some (.int .i64 p) ∧ w1.cell? ⟨w.heap.size + 1, 1, none⟩ = some (.int .i64 u) ∧ Below w.heap.size w w1 ∧ w.heap.size < w1.heap.size ∧ w.heap.size + 1 < w1.heap.size := by
  refine ⟨?_, ?_, ?_, (two_below _ _ _).trans (hb.mono (by omega)), by have := hb.size; simp at this; omega, by have := hb.size; simp at this; omega⟩
  all_goals exact (hb.cell (by first | (simp; done) | (simp; omega))).trans (by go_simp)

/-- What is found under a node. -/
def foundF (S : List Nd) (k : Nat) (q : List Tst) : List Int := (orderS S k).tail.filter fun p => isSoF S p q

set_option maxHeartbeats 1000000 in
theorem qfind_err (a : Option Addr) (c : Nat) (S : List Nd) (p u E : Int) (qv : Value) (w : World) (hN : S.length ≤ 9223372036854775807) (hB : Big S) (hS : NdsAt w a S) (hE : tcheckE S [(p, u)] = E) (hE0 : E ≠ 0) :
    Calls Tryz.prog 109 #[.agg #[.slice a S.length c], .agg #[.int .i64 p, .int .i64 u], qv] w fun e w' => e = .returned (.tuple #[.slice none 0 0, .int .i64 E]) ∧ Below w.heap.size w w' := by
  have D1 : Hid (∀ W, NdsAt W a S → Calls _ _ _ _ _) := fun W hW => order_err a c S p u E W hN hB hW hE hE0
  have HS : Hid (NdsAt w a S) := hS
  have hz : (E == 0) = false := by simp [hE0]
  clear hS hB hE
  generalize S.length = n at *
  go_enter Tryz.func109, Tryz.ntmps109
  go_wp2_with fail
  refine (D1.out _ (HS.out.below (two_below _ _ _))).mono ?_
  rintro e w1 ⟨rfl, hb1⟩
  simp only [World.size_alloc] at hb1
  have HW1 : Hid (Below w.heap.size w w1) := (two_below _ _ _).trans (hb1.mono (by omega))
  clear hb1
  go_wp2
  go_ret2
  exact ⟨rfl, HW1.out⟩

set_option maxHeartbeats 1000000 in
theorem qfind_bad (a : Option Addr) (c : Nat) (S : List Nd) (k : Nat) (u E : Int) (qa : Option Addr) (qc : Nat) (q : List Tst) (w : World) (wf : WF S) (hk : k < S.length) (hT : tcheckE S [((k : Int), u)] = 0) (hS : NdsAt w a S) (hql : q.length ≤ 9223372036854775807) (hQ : TestsAt w qa q) (hE : qcheckE q = E) (hE0 : E ≠ 0) :
    Calls Tryz.prog 109 #[.agg #[.slice a S.length c], .agg #[.int .i64 (k : Int), .int .i64 u], .slice qa q.length qc] w fun e w' => e = .returned (.tuple #[.slice none 0 0, .int .i64 E]) ∧ Below w.heap.size w w' := by
  have hN := wf.small
  have hB := wf.big
  have D1 : Hid (∀ W, NdsAt W a S → Calls _ _ _ _ _) := fun W hW => order_ok a c S k S.length u W (by omega) hB hW hT hk (wf.deep_all hk) (by have := order_le wf hk; omega)
  have d2 := fun W (hW : TestsAt W qa q) => qcheck_any qa qc q W hql hW
  rw [hE] at d2
  have D2 : Hid _ := d2
  have HS : Hid (NdsAt w a S) := hS
  have HQ : Hid (TestsAt w qa q) := hQ
  have hz : (E == 0) = false := by simp [hE0]
  clear hS hQ d2 hE hB wf hT
  generalize (orderF S S.length k).length = OL at *
  generalize S.length = n at *
  generalize q.length = L at *
  go_enter Tryz.func109, Tryz.ntmps109
  go_wp2_with fail
  refine (D1.out _ (HS.out.below (two_below _ _ _))).mono ?_
  rintro e w1 ⟨sa, cap, rfl, hb1, _⟩
  simp only [World.size_alloc] at hb1
  have HW1 : Hid (Below w.heap.size w w1) := (two_below _ _ _).trans (hb1.mono (by omega))
  clear hb1
  go_wp2_with fail
  refine (D2.out _ (HQ.out.below HW1.out)).mono ?_
  rintro e w2 ⟨rfl, hb2⟩
  have HW2 : Hid (Below w.heap.size w w2) := HW1.out.trans (hb2.mono HW1.out.size)
  clear hb2
  go_wp2
  go_ret2
  exact ⟨rfl, HW2.out⟩

theorem filter_take (f : Int → Bool) (l : List Int) (k : Nat) (h : k < l.length) : (l.take (k + 1)).filter f = (l.take k).filter f ++ (if f (l.getD k 0) then [l.getD k 0] else []) := by
  rw [List.take_add_one, List.filter_append, List.getElem?_eq_getElem h, getD_elem l 0 h]
  simp only [Option.toList, List.filter_cons, List.filter_nil]

set_option maxRecDepth 100000 in
set_option maxHeartbeats 4000000 in
theorem qfind_ok (a : Option Addr) (c : Nat) (S : List Nd) (k : Nat) (u : Int) (qa : Option Addr) (qc : Nat) (q : List Tst) (w : World) (wf : WF S) (hk : k < S.length) (hku : (nd S k).u = true) (hT : tcheckE S [((k : Int), u)] = 0) (hS : NdsAt w a S) (hQ : TestsAt w qa q) (hq : qcheckE q = 0) :
    Calls Tryz.prog 109 #[.agg #[.slice a S.length c], .agg #[.int .i64 (k : Int), .int .i64 u], .slice qa q.length qc] w fun e w' => ∃ fa fc, e = .returned (.tuple #[.slice fa (foundF S k q).length fc, .int .i64 0]) ∧ Below w.heap.size w w' ∧ IntsAt w' fa (foundF S k q) ∧ (foundF S k q).length ≤ 24 ∧ ∀ x : Addr, fa = some x → w.heap.size ≤ x.block := by
  have hN := wf.small
  have hB := wf.big
  have hlen := qcheck_len hq
  have hof := orderFacts wf hk hku
  have D1 : Hid (∀ W, NdsAt W a S → Calls _ _ _ _ _) := fun W hW => order_ok a c S k S.length u W (by omega) hB hW hT hk (wf.deep_all hk) (by have := order_le wf hk; omega)
  have d2 := fun W (hW : TestsAt W qa q) => qcheck_any qa qc q W (by omega) hW
  rw [hq] at d2
  have D2 : Hid _ := d2
  have D3 : Hid (∀ (p : Nat) W, p < S.length → NdsAt W a S → TestsAt W qa q → Calls _ _ _ _ _) := fun p W hp h1 h2 => isSo_any a c S p qa qc q W wf hp h1 hlen.2 h2
  have HS : Hid (NdsAt w a S) := hS
  have HQ : Hid (TestsAt w qa q) := hQ
  have EACH : Hid (∀ i, i < (orderS S k).tail.length → ∃ p : Nat, (orderS S k).tail.getD i 0 = p ∧ p < S.length) := fun i hi => by
    rw [List.length_tail] at hi
    obtain ⟨p, e, hp, _⟩ := hof.each (i + 1) (by omega)
    refine ⟨p, ?_, hp⟩
    rw [← e, getD_elem _ _ (by rw [List.length_tail]; omega), getD_elem _ _ (by omega), List.getElem_tail]
  have hpos := hof.pos
  have hsml := hof.small
  have TL : Hid (∀ W sa, IntsAt W sa (orderS S k) → ∃ b o, sa = some ⟨b, o, none⟩ ∧ IntsAt W (some ⟨b, o + 1, none⟩) (orderS S k).tail) := fun W sa h => by
    obtain ⟨b, o, e, _⟩ := h 0 hpos
    refine ⟨b, o, e, fun i hi => ⟨b, o + 1, rfl, ?_⟩⟩
    rw [List.length_tail] at hi
    obtain ⟨b', o', e', hc⟩ := h (i + 1) (by omega)
    rw [e] at e'
    cases e'
    rw [show o + 1 + i = o + (i + 1) by omega, hc, getD_elem _ _ (by omega), getD_elem _ _ (by rw [List.length_tail]; omega), List.getElem_tail]
  have FT : Hid (∀ i, i < (orderS S k).tail.length → ((orderS S k).tail.take (i + 1)).filter (fun p => isSoF S p q) = ((orderS S k).tail.take i).filter (fun p => isSoF S p q) ++ (if isSoF S ((orderS S k).tail.getD i 0) q then [(orderS S k).tail.getD i 0] else [])) := fun i hi => filter_take _ _ i hi
  have FE : Hid (foundF S k q = ((orderS S k).tail.take (orderS S k).tail.length).filter (fun p => isSoF S p q)) := by show _ = _; rw [List.take_length]; rfl
  have FL : Hid (∀ i, (((orderS S k).tail.take i).filter (fun p => isSoF S p q)).length ≤ 24) := fun i => by
    refine Nat.le_trans (List.length_filter_le _ _) ?_
    rw [List.length_take, List.length_tail]
    omega
  have hOL : (orderF S S.length k).length = (orderS S k).tail.length + 1 := by rw [List.length_tail]; show (orderS S k).length = _; omega
  clear hS hQ d2 hq hB wf hT hof hpos hsml
  rw [show orderF S S.length k = orderS S k from rfl] at D1 hOL
  rw [hOL] at D1
  clear hOL
  generalize foundF S k q = R at *
  generalize hn : S.length = n at *
  have HN : Hid _ := hn
  clear hn
  generalize hl : q.length = L at *
  have HL : Hid _ := hl
  clear hl
  generalize hol : (orderS S k).tail.length = OL at *
  have HOL : Hid _ := hol
  clear hol
  obtain ⟨i0, hi0, hz0, hz1, hz2⟩ := info_parts info3
  go_enter Tryz.func109, Tryz.ntmps109
  go_wp2_with fail
  refine (D1.out _ (HS.out.below (two_below _ _ _))).mono ?_
  rintro e w1 ⟨sa, cap, rfl, hb1, hI1, hcap1, hcap2⟩
  simp only [World.size_alloc] at hb1
  obtain ⟨l0, l1, l2, l3, r0, r1⟩ := fits_low hb1
  have HB1 : Hid _ := hb1
  have HW1 : Hid _ := l3
  obtain ⟨ob, oo, hsa, hI1'⟩ := TL.out _ _ hI1
  subst hsa
  have HI1 : Hid (IntsAt w1 (some ⟨ob, oo + 1, none⟩) (orderS S k).tail) := hI1'
  clear hb1 l3 hI1 hI1'
  go_wp2_with fail
  refine (D2.out _ (HQ.out.below HW1.out)).mono ?_
  rintro e w2 ⟨rfl, hb2⟩
  have hs2 := hb2.size
  have HW2 : Hid (Below w.heap.size w w2) := HW1.out.trans (hb2.mono HW1.out.size)
  have HI2 : Hid (IntsAt w2 (some ⟨ob, oo + 1, none⟩) (orderS S k).tail) := HI1.out.below hb2
  have hc2 := (hb2.cell (World.block_lt_of_cell? _ _ l0)).trans l0
  have hcw := World.block_lt_of_cell? _ _ hc2
  have HCW : Hid (w.heap.size < w2.heap.size) := hcw
  clear hb2 l0 l1 l2 r0 r1 HI1
  by_cases hc1 : cap = 1
  · subst hc1
    have hOL0 : OL = 0 := by omega
    have hT0 : (orderS S k).tail = [] := List.length_eq_zero_iff.1 (by rw [HOL.out]; exact hOL0)
    have HT0 : Hid _ := hT0
    clear hT0 hcap1 hcap2
    have HT : Hid (IntsAt w2 (some ⟨ob, oo, none⟩) (orderS S k).tail) := (show Hid _ by rw [HT0.out]; exact (fun i hi => absurd hi (Nat.not_lt_zero _)))
    go_wp2
    go_loopg [11, 31] OL (fun g1 s11 s31 wr => ∃ (j : Nat), j ≤ OL ∧ OL - j ≤ g1 ∧ s31 = .int .i64 j ∧ Hid (Below w2.heap.size w2 wr) ∧ wr.cell? ⟨w.heap.size, 0, none⟩ = some (.slice a n c) ∧ w.heap.size < wr.heap.size ∧ Hid (wr.ownsRow w2.heap.size 3 1 s11 (((orderS S k).tail.take j).filter (fun p => isSoF S p q)).length ((((orderS S k).tail.take j).filter (fun p => isSoF S p q)).map (Value.int .i64))))
    case atStart => exact ⟨0, by omega, by omega, rfl, Below.refl _ _, hc2, hcw, World.ownsRow_nil _ _ _ _⟩
    case round =>
      obtain ⟨j, hj, hg1, rfl, HB, hc, hcl, HOW⟩ := hrel
      clear hc2 hcw
      obtain ⟨pa, pc, hv, hints, hblk⟩ := own_slice HOW.out
      have HI : Hid _ := hints
      have HK : Hid (∀ x : Addr, pa = some x → w.heap.size ≤ x.block) := fun x hx => by
        have h1 := (hblk x.block (by rw [hv, hx]; rfl)).1
        have h2 : w.heap.size < w2.heap.size := HCW.out
        omega
      clear hints hblk
      by_cases hlt : j < OL
      · exact absurd hlt (by omega)
      · have hj' : j = OL := by omega
        subst hj'
        have FR : Hid (R = ((orderS S k).tail.take j).filter (fun p => isSoF S p q)) := by
          show _ = _
          rw [FE.out]
        have FL2 := FL.out j
        rw [← FR.out] at hv HI FL2
        have HB2 : Hid (Below w.heap.size w wr) := HW2.out.trans (HB.out.mono HW2.out.size)
        rw [hv]
        clear hv
        generalize hRL : R.length = RL at FL2 ⊢
        have HRL : Hid _ := hRL
        clear hRL
        go_wp2
        go_ret2
        exact ⟨pa, pc, by rw [HRL.out]; rfl, HB2.out, HI.out, by rw [HRL.out]; exact FL2, HK.out⟩
  · have hcap3 : (1 : Int) ≤ (cap : Int) := by omega
    have hcap4 : ¬ ((cap : Int) = 1) := by omega
    have HT : Hid (IntsAt w2 (some ⟨ob, oo + 1, none⟩) (orderS S k).tail) := HI2
    go_wp2
    go_loopg [11, 31] OL (fun g1 s11 s31 wr => ∃ (j : Nat), j ≤ OL ∧ OL - j ≤ g1 ∧ s31 = .int .i64 j ∧ Hid (Below w2.heap.size w2 wr) ∧ wr.cell? ⟨w.heap.size, 0, none⟩ = some (.slice a n c) ∧ w.heap.size < wr.heap.size ∧ Hid (wr.ownsRow w2.heap.size 3 1 s11 (((orderS S k).tail.take j).filter (fun p => isSoF S p q)).length ((((orderS S k).tail.take j).filter (fun p => isSoF S p q)).map (Value.int .i64))))
    case atStart => exact ⟨0, by omega, by omega, rfl, Below.refl _ _, hc2, hcw, World.ownsRow_nil _ _ _ _⟩
    case round =>
      obtain ⟨j, hj, hg1, rfl, HB, hc, hcl, HOW⟩ := hrel
      clear hc2 hcw
      obtain ⟨pa, pc, hv, hints, hblk⟩ := own_slice HOW.out
      have HI : Hid _ := hints
      have HK : Hid (∀ x : Addr, pa = some x → w.heap.size ≤ x.block) := fun x hx => by
        have h1 := (hblk x.block (by rw [hv, hx]; rfl)).1
        have h2 : w.heap.size < w2.heap.size := HCW.out
        omega
      clear hints hblk
      by_cases hlt : j < OL
      · have hlt2 : (j : Int) < (OL : Int) := by omega
        obtain ⟨tb, to, ee, tc⟩ := (HT.out.below HB.out) j (by rw [HOL.out]; exact hlt)
        cases ee
        obtain ⟨p, hp, hpn⟩ := EACH.out j (by omega)
        have htl := World.block_lt_of_cell? _ _ tc
        have FJ := FT.out j (by omega)
        rw [hp] at tc FJ
        have D : Hid _ := D3.out p wr hpn (HS.out.below (HW2.out.trans (HB.out.mono HW2.out.size))) (HQ.out.below (HW2.out.trans (HB.out.mono HW2.out.size)))
        have HFJ : Hid _ := FJ
        have FLJ := FL.out j
        clear FJ hp
        generalize hA : ((orderS S k).tail.take j).filter (fun p => isSoF S p q) = A at *
        have HA : Hid _ := hA
        clear hA
        cases hso : isSoF S p q with
        | false =>
          rw [hso] at D HFJ
          have F2 : Hid (((orderS S k).tail.take (j + 1)).filter (fun p => isSoF S p q) = A) := by
            show _ = _
            rw [HFJ.out]; simp
          clear hso hv
          go_wp2_with fail
          refine Calls.mono D.out ?_
          rintro e w3 ⟨rfl, hb3⟩
          have hc3 := (hb3.cell (World.block_lt_of_cell? _ _ hc)).trans hc
          have HB3 : Hid (Below w2.heap.size w2 w3) := HB.out.trans (hb3.mono HB.out.size)
          have OW3 : Hid (w3.ownsRow w2.heap.size 3 1 u11 A.length (A.map (Value.int .i64))) := HOW.out.kept (row := none) ⟨hb3.os, hb3.tape, hb3.output, hb3.size, fun k hk _ => hb3.block k hk⟩ (by
            cases hv : u11.ownBlock with
            | none => exact Or.inl rfl
            | some k => exact Or.inr (fun e => by cases e))
          have hz3 := hb3.size
          clear hb3
          go_wp2
          go_roundg (OL - (j + 1))
          case measure => omega
          case rel => exact ⟨j + 1, by omega, by omega, by go_num, HB3, hc3, by omega, by rw [F2.out]; exact OW3⟩
        | true =>
          rw [hso] at D HFJ
          have F2 : Hid (((orderS S k).tail.take (j + 1)).filter (fun p => isSoF S p q) = A ++ [(p : Int)]) := by
            show _ = _
            rw [HFJ.out]; simp
          clear hso hv
          go_wp2_with fail
          refine Calls.mono D.out ?_
          rintro e w3 ⟨rfl, hb3⟩
          have hc3 := (hb3.cell (World.block_lt_of_cell? _ _ hc)).trans hc
          have HB3 : Hid (Below w2.heap.size w2 w3) := HB.out.trans (hb3.mono HB.out.size)
          have OW3 : Hid (w3.ownsRow w2.heap.size 3 1 u11 A.length (A.map (Value.int .i64))) := HOW.out.kept (row := none) ⟨hb3.os, hb3.tape, hb3.output, hb3.size, fun k hk _ => hb3.block k hk⟩ (by
            cases hv : u11.ownBlock with
            | none => exact Or.inl rfl
            | some k => exact Or.inr (fun e => by cases e))
          have hz3 := hb3.size
          have hz0' := HB.out.size
          have hcl3 : w.heap.size < w3.heap.size := by omega
          clear hb3
          go_wp2_with (at_builtin; refine wpList_append_own _ rfl _ _ 29 rfl w2.heap.size 3 i0 (.int .i64 0) 1 8 Tryz.underlying29 hi0 hz0 hz1 hz2 rfl (by decide) _ _ _ rfl (OW3.out.alloc _) ⟨w3.heap.size, 0, none⟩ 1 1 [.int .i64 (p : Int)] rfl rfl ?c1 ?c2 ?c3 ?c4 ?c5 ?_)
          case c1 =>
            intro i u hi
            match i, hi with
            | 0, hi => simp at hi; subst hi; simp [Addr.add]
          case c2 => intro u hu; simp at hu; subst hu; rfl
          case c3 => unfold maxLen; omega
          case c4 => omega
          case c5 => simp; omega
          intro v' w4 hown' hgrow _
          have HB4 : Hid (Below w2.heap.size w2 w4) := (HB3.out.alloc HB3.out.size _).grown hgrow (by simp; have := HB3.out.size; omega) (fun k hk => (OW3.out.lt k hk).1)
          have hc4 : w4.cell? ⟨w.heap.size, 0, none⟩ = some (.slice a n c) := by
            have h1 := one_more hc3 (.cells #[.int .i64 (p : Int)] 3)
            exact (World.cell?_of_block (hgrow.block _ (by simp; omega) (fun e => by have h5 : w2.heap.size ≤ w.heap.size := (OW3.out.lt _ e.symm).1; have h6 : w.heap.size < w2.heap.size := HCW.out; omega))).trans h1
          have hcl4 : w.heap.size < w4.heap.size := by have := hgrow.size; simp at this; omega
          have OW4 : Hid (w4.ownsRow w2.heap.size 3 1 v' (A ++ [(p : Int)]).length ((A ++ [(p : Int)]).map (Value.int .i64))) := by
            show _
            rw [List.length_append, List.map_append]
            exact hown'
          clear hown' hgrow
          go_wp2
          go_roundg (OL - (j + 1))
          case measure => omega
          case rel => exact ⟨j + 1, by omega, by omega, by go_num, HB4, hc4, hcl4, by rw [F2.out]; exact OW4⟩
      · have hj' : j = OL := by omega
        subst hj'
        have FR : Hid (R = ((orderS S k).tail.take j).filter (fun p => isSoF S p q)) := by
          show _ = _
          rw [FE.out]
        have FL2 := FL.out j
        rw [← FR.out] at hv HI FL2
        have HB2 : Hid (Below w.heap.size w wr) := HW2.out.trans (HB.out.mono HW2.out.size)
        rw [hv]
        clear hv
        generalize hRL : R.length = RL at FL2 ⊢
        have HRL : Hid _ := hRL
        clear hRL
        go_wp2
        go_ret2
        exact ⟨pa, pc, by rw [HRL.out]; rfl, HB2.out, HI.out, by rw [HRL.out]; exact FL2, HK.out⟩
end Go.Proofs.YtgjfmepbphfjoaaGreat
