/-
  The law QueryFinds: the walk where both are right.
-/
import Derived.Test.YtjlapfgghljidabUViVj
import Derived.Deep.RegionHeld3
import Derived.Deep.RegionWith
import Derived.BigQuiet
namespace Go.Proofs.Ytjlapfgghljidab
open Go.RowKit

theorem tail_slice (ob oo OL ocap : Nat) (h : OL + 1 ≤ ocap) (hb : ocap ≤ 9223372036854775807) : ∃ o' c', (∀ W, (Instr.slice 27 (.slice (some ⟨ob, oo, none⟩) (OL + 1) ocap) (some (.int .i64 1)) none none).run Try.prog W = .ok (.slice (some ⟨ob, o', none⟩) OL c') W) ∧ (OL = 0 ∨ o' = oo + 1) := by
  by_cases e : ocap = 1
  · subst e
    have : OL = 0 := by omega
    subst this
    exact ⟨oo, 0, fun W => by go_simp, Or.inl rfl⟩
  · have h1 : ¬ ((ocap : Int) = 1) := by omega
    have h2 : (1 : Int) ≤ (ocap : Int) := by omega
    exact ⟨oo + 1, ocap - 1, fun W => by go_simp; intro h; omega, Or.inr rfl⟩

theorem finds_low {w w1 : World} {a : Option Addr} {n c : Nat} {k u tt tm : Int} {tn : Bool} (hb : Below (w.heap.size + 1 + 1 + 1) (((w.alloc (.cells #[.slice a n c] 24)).alloc (.cells #[.int .i64 k, .int .i64 u] 26)).alloc (.cells #[.int .i64 tt, .int .i64 tm, .bool tn] 45)) w1) :
    w1.cell? ⟨w.heap.size, 0, none⟩ = some (.slice a n c) ∧ w1.cell? ⟨w.heap.size + 1, 0, none⟩ = some (.int .i64 k) ∧ w1.cell? ⟨w.heap.size + 1, 1, none⟩ = some (.int .i64 u) ∧ w1.cell? ⟨w.heap.size + 1 + 1, 0, none⟩ = some (.int .i64 tt) ∧ w1.cell? ⟨w.heap.size + 1 + 1, 1, none⟩ = some (.int .i64 tm) ∧ w1.cell? ⟨w.heap.size + 1 + 1, 2, none⟩ = some (.bool tn) ∧ Below w.heap.size w w1 ∧ w.heap.size < w1.heap.size ∧ w.heap.size + 1 < w1.heap.size ∧ w.heap.size + 1 + 1 < w1.heap.size := by
  refine ⟨?_, ?_, ?_, ?_, ?_, ?_, (three_below _ _ _ _).trans (hb.mono (by omega)), by have := hb.size; simp at this; omega, by have := hb.size; simp at this; omega, by have := hb.size; simp at this; omega⟩
  all_goals exact (hb.cell (by first | (simp; done) | (simp; omega))).trans (by go_simp)

theorem news3 {W : World} {b : Nat} {t m : Int} {n : Bool} (c0 : W.cell? ⟨b, 0, none⟩ = some (.int .i64 t)) (c1 : W.cell? ⟨b, 1, none⟩ = some (.int .i64 m)) (c2 : W.cell? ⟨b, 2, none⟩ = some (.bool n)) : ∀ j u, ([.int .i64 t, .int .i64 m, .bool n] : List Value)[j]? = some u → W.cell? ((⟨b, 0, none⟩ : Addr).add j) = some u := fun j u hj => by
  rw [Addr.add_lit]
  match j, hj with
  | 0, hj => cases hj; exact c0
  | 1, hj => cases hj; exact c1
  | 2, hj => cases hj; exact c2

theorem one3 {t m : Int} {n : Bool} : ∀ u ∈ ([.int .i64 t, .int .i64 m, .bool n] : List Value), u.oneCell' = true := fun u hu => by
  simp at hu
  rcases hu with rfl | rfl | rfl <;> rfl
/-- append onto a row of the call's own, in a region that draws. -/
theorem step_append_own {P : Program} {ops : Array Oper} {o : Oper} {a : Act} {w : World} {K : Act → World → Prop} {Q : Exit → Act → World → Prop} {E : Prop}
    (hg : o.guard = none) (s x : Operand) (t : TypeId) (hop : o.op = Op.call { callee := Callee.builtin Builtin.append, args := #[s, x], argTypes := #[t, t] })
    (base : Nat) (e : TypeId) (i : TypeInfo) (z : Value) (size bytes : Nat) (h1 : P.underlying t = some (.slice e)) (h2 : P.info? e = some i) (h3 : i.zero = some z) (h4 : i.size = size) (h5 : i.bytes = bytes) (h6 : z.cells.size = size) (h7 : 0 < size)
    (v : Value) (n : Nat) (xs : List Value) (hs : a.eval s = v) (hown : w.ownsRow base e size v n xs)
    (ad : Addr) (m c : Nat) (news : List Value) (hx : a.eval x = .slice (some ad) m c) (hn : news.length = m * size) (hc : ∀ j u, news[j]? = some u → w.cell? (ad.add j) = some u) (h1c : ∀ u ∈ news, u.oneCell' = true)
    (b1 : n + m ≤ maxLen) (b2 : (n + m) * bytes ≤ 140737488355328) (hbase : base ≤ w.heap.size)
    (hK : ∀ v' w', w'.ownsRow base e size v' (n + m) (xs ++ news) → w.grownBy w' v.ownBlock → K (a.put o.dst v') w') :
    if Region.wanted o (yielded ops a.tmps) = true then Oper.wp P o a w K Q else E := by
  have hw : Region.wanted o (yielded ops a.tmps) = true := by simp [Region.wanted, hg]
  rw [if_pos hw]
  exact wp_append_own w s x t hop base e i z size bytes h1 h2 h3 h4 h5 h6 h7 v n xs hs hown ad m c news hx hn hc h1c b1 b2 hbase (fun v' w' r1 r2 _ => hK v' w' r1 r2)

set_option maxRecDepth 100000 in
set_option maxHeartbeats 8000000 in
theorem finds_ok (G : SoughtOk) (a : Option Addr) (c : Nat) (S : List Nd) (k : Nat) (u : Int) (qb qo qc : Nat) (q : List Tst) (tt tm : Int) (tn : Bool) (w : World) (wf : WF S) (hk : k < S.length) (hku : (nd S k).u = true) (hT : tcheckE S [((k : Int), u)] = 0) (hS : NdsAt w a S) (hQ : TestsAt w (some ⟨qb, qo, none⟩) q) (hq : qcheckE q = 0) :
    Calls Try.prog 5 #[.agg #[.slice a S.length c], .agg #[.int .i64 (k : Int), .int .i64 u], .slice (some ⟨qb, qo, none⟩) q.length qc, .agg #[.int .i64 tt, .int .i64 tm, .bool tn]] w fun e w' => e = .returned (.bool true) ∧ Below w.heap.size w w' := by
  have hN := wf.small
  have hB := wf.big
  have hlen := qcheck_len hq
  have hof := orderFacts wf hk hku
  have D1 : Hid (∀ W, NdsAt W a S → TestsAt W (some ⟨qb, qo, none⟩) q → Calls _ _ _ _ _) := fun W h1 h2 => qfind_ok a c S k u (some ⟨qb, qo, none⟩) qc q W wf hk hku hT h1 h2 hq
  have D2 : Hid (∀ W, NdsAt W a S → Calls _ _ _ _ _) := fun W hW => order_ok a c S k S.length u W (by omega) hB hW hT hk (wf.deep_all hk) (by have := order_le wf hk; omega)
  have D3 : Hid (∀ (p : Nat) W, p < S.length → (nd S p).u = true → NdsAt W a S → TestsAt W (some ⟨qb, qo, none⟩) q → Calls _ _ _ _ _) := fun p W hp hpu h1 h2 => fits_ok a c S p (nd S p).n (some ⟨qb, qo, none⟩) qc q W wf hp (find_zero wf (holds_used hp hpu rfl wf)) h1 h2 hq
  have HS : Hid (NdsAt w a S) := hS
  have HQ : Hid (TestsAt w (some ⟨qb, qo, none⟩) q) := hQ
  have DC : Hid (∀ W, TestsAt W (some ⟨qb, qo, none⟩) q → Calls _ _ _ _ _) := fun W hW => cloneTests_any qb qo qc q W hlen hW
  have EACH : Hid (∀ i, i < (orderS S k).tail.length → ∃ p : Nat, (orderS S k).tail.getD i 0 = p ∧ p < S.length ∧ (nd S p).u = true) := fun i hi => by
    rw [List.length_tail] at hi
    obtain ⟨p, e, hp, hpu, _⟩ := hof.each (i + 1) (by omega)
    refine ⟨p, ?_, hp, hpu⟩
    rw [← e, getD_elem _ _ (by rw [List.length_tail]; omega), getD_elem _ _ (by omega), List.getElem_tail]
  have hpos := hof.pos
  have hsml := hof.small
  have hnd : (orderS S k).tail.Nodup := ((nodup_order wf hk (Nat.le_refl _) (wf.deep_all hk)).sublist (List.tail_sublist _))
  have TL : Hid (∀ W sa, IntsAt W sa (orderS S k) → ∃ b o, sa = some ⟨b, o, none⟩ ∧ IntsAt W (some ⟨b, o + 1, none⟩) (orderS S k).tail) := fun W sa h => by
    obtain ⟨b, o, e, _⟩ := h 0 hpos
    refine ⟨b, o, e, fun i hi => ⟨b, o + 1, rfl, ?_⟩⟩
    rw [List.length_tail] at hi
    obtain ⟨b', o', e', hc⟩ := h (i + 1) (by omega)
    rw [e] at e'
    cases e'
    rw [show o + 1 + i = o + (i + 1) by omega, hc, getD_elem _ _ (by omega), getD_elem _ _ (by rw [List.length_tail]; omega), List.getElem_tail]
  have FT : Hid (∀ i, i < (orderS S k).tail.length → ((orderS S k).tail.take (i + 1)).filter (fun p => isSoF S p q) = ((orderS S k).tail.take i).filter (fun p => isSoF S p q) ++ (if isSoF S ((orderS S k).tail.getD i 0) q then [(orderS S k).tail.getD i 0] else [])) := fun i hi => filter_take _ _ i hi
  have FE : Hid (foundF S k q = ((orderS S k).tail.take (orderS S k).tail.length).filter (fun p => isSoF S p q)) := by show _ = _; rw [List.take_length]; rfl
  have SY : Hid (∀ i, i < (orderS S k).tail.length → isSoF S ((orderS S k).tail.getD i 0) q = true → (((orderS S k).tail.take i).filter (fun p => isSoF S p q)).length < (foundF S k q).length ∧ (foundF S k q).getD (((orderS S k).tail.take i).filter (fun p => isSoF S p q)).length 0 = (orderS S k).tail.getD i 0) := fun i hi h => sift_yes hi h
  have SN : Hid (∀ i, i < (orderS S k).tail.length → isSoF S ((orderS S k).tail.getD i 0) q = false → ¬ ((((orderS S k).tail.take i).filter (fun p => isSoF S p q)).length < (foundF S k q).length ∧ (foundF S k q).getD (((orderS S k).tail.take i).filter (fun p => isSoF S p q)).length 0 = (orderS S k).tail.getD i 0)) := fun i hi h => sift_no hnd hi h
  have hOL : (orderF S S.length k).length = (orderS S k).tail.length + 1 := by rw [List.length_tail]; show (orderS S k).length = _; omega
  have HWF : Hid (WF S) := wf
  have HTC : Hid (tcheckE S [((k : Int), u)] = 0) := hT
  have HKU : Hid ((nd S k).u = true) := hku
  have HQ1 : Hid (1 ≤ q.length) := hlen.1
  clear hS hQ hq hB wf hT hof hku
  rw [show orderF S S.length k = orderS S k from rfl] at D2 hOL
  rw [hOL] at D2
  have hOb : (orderS S k).tail.length ≤ 24 := by rw [List.length_tail]; omega
  clear hOL hpos hsml hnd
  generalize hRR : foundF S k q = R at *
  have HRR : Hid _ := hRR
  clear hRR
  generalize hn : S.length = n at *
  have HN : Hid _ := hn
  clear hn
  generalize hl : q.length = L at *
  have HL : Hid _ := hl
  clear hl
  generalize hol : (orderS S k).tail.length = OL at *
  have HOL : Hid _ := hol
  clear hol
  generalize hrl : R.length = RL at *
  have HRL : Hid _ := hrl
  clear hrl
  go_enter Try.func5, Try.ntmps5
  go_wp2_with fail
  refine (D1.out _ (HS.out.below (three_below _ _ _ _)) (HQ.out.below (three_below _ _ _ _))).mono ?_
  rintro e w1 ⟨fa, fc, rfl, hb1, hI1, hRL24, _⟩
  simp only [World.size_alloc] at hb1
  have HB1 : Hid (Below (w.heap.size + 1 + 1 + 1) (((w.alloc (.cells #[.slice a n c] 24)).alloc (.cells #[.int .i64 (k : Int), .int .i64 u] 26)).alloc (.cells #[.int .i64 tt, .int .i64 tm, .bool tn] 45)) w1) := hb1
  have HI1 : Hid (IntsAt w1 fa R) := hI1
  obtain ⟨l0, l1, l2, l3, l4, l5, l6, r0, r1, r2⟩ := finds_low hb1
  clear hb1 hI1 l6
  go_wp2_with fail
  refine (D2.out _ (HS.out.below ((three_below _ _ _ _).trans (HB1.out.mono (by omega))))).mono ?_
  rintro e w2 ⟨oa, ocap, rfl, hb2, hO2, hc1, hc2⟩
  obtain ⟨ob, oo, hoa, hT2⟩ := TL.out _ _ hO2
  subst hoa
  have HB2 : Hid (Below (w.heap.size + 1 + 1 + 1) (((w.alloc (.cells #[.slice a n c] 24)).alloc (.cells #[.int .i64 (k : Int), .int .i64 u] 26)).alloc (.cells #[.int .i64 tt, .int .i64 tm, .bool tn] 45)) w2) := HB1.out.trans (hb2.mono (by omega))
  have HI2 : Hid (IntsAt w2 fa R) := HI1.out.below hb2
  have HT2 : Hid (IntsAt w2 (some ⟨ob, oo + 1, none⟩) (orderS S k).tail) := hT2
  clear l0 l1 l2 l3 l4 l5 r0 r1 r2 hb2 hO2 hT2
  obtain ⟨l0, l1, l2, l3, l4, l5, l6, r0, r1, r2⟩ := finds_low HB2.out
  clear l6
  go_wp2_with fail
  refine (G _).mono ?_
  rintro e w3 ⟨rfl, hb3⟩
  have HB3 : Hid (Below (w.heap.size + 1 + 1 + 1) (((w.alloc (.cells #[.slice a n c] 24)).alloc (.cells #[.int .i64 (k : Int), .int .i64 u] 26)).alloc (.cells #[.int .i64 tt, .int .i64 tm, .bool tn] 45)) w3) := HB2.out.trans (hb3.mono (by omega))
  have HI3 : Hid (IntsAt w3 fa R) := HI2.out.below hb3
  obtain ⟨to, tc, hsl, hto⟩ := tail_slice ob oo OL ocap hc1 hc2
  have HT3 : Hid (IntsAt w3 (some ⟨ob, to, none⟩) (orderS S k).tail) := fun i hi => by
    rcases hto with h | h
    · rw [HOL.out] at hi; omega
    · rw [h]; exact (HT2.out.below hb3) i hi
  clear l0 l1 l2 l3 l4 l5 r0 r1 r2 hb3 hto hc1 hc2
  obtain ⟨l0, l1, l2, l3, l4, l5, l6, r0, r1, r2⟩ := finds_low HB3.out
  clear l6
  go_wp2
  have H00 : Hid ((0 : Nat) = (((orderS S k).tail.take 0).filter (fun p => isSoF S p q)).length) := rfl
  go_loopg [13, 49] OL (fun g1 s13 s49 wr => ∃ j kk : Nat, j ≤ OL ∧ OL - j ≤ g1 ∧ s49 = .int .i64 j ∧ s13 = .int .i64 kk ∧ Hid (kk = (((orderS S k).tail.take j).filter (fun p => isSoF S p q)).length) ∧ Hid (Below w3.heap.size w3 wr))
  case atStart => exact ⟨0, 0, by omega, by omega, rfl, rfl, H00, Below.refl _ _⟩
  case round =>
    obtain ⟨j, kk, hj, hg1, rfl, rfl, HKK, HBr⟩ := hrel
    have HRr : Hid (Below (w.heap.size + 1 + 1 + 1) (((w.alloc (.cells #[.slice a n c] 24)).alloc (.cells #[.int .i64 (k : Int), .int .i64 u] 26)).alloc (.cells #[.int .i64 tt, .int .i64 tm, .bool tn] 45)) wr) := HB3.out.trans (HBr.out.mono (by omega))
    clear l0 l1 l2 l3 l4 l5 r0 r1 r2 H00
    obtain ⟨l0, l1, l2, l3, l4, l5, l6, r0, r1, r2⟩ := finds_low HRr.out
    have HWr : Hid (Below w.heap.size w wr) := l6
    have HIr : Hid (IntsAt wr fa R) := HI3.out.below HBr.out
    clear l6
    by_cases hlt : j < OL
    · have hlt2 : (j : Int) < (OL : Int) := by omega
      obtain ⟨tb, to', ee, tcell⟩ := (HT3.out.below HBr.out) j (by rw [HOL.out]; exact hlt)
      cases ee
      obtain ⟨p, hp, hpn, hpu⟩ := EACH.out j (by omega)
      have hpn2 : (p : Int) < (n : Int) := by omega
      obtain ⟨nb, no, hae, _, n1, _⟩ := (HS.out.below HWr.out) p (by rw [HN.out]; exact hpn)
      subst hae
      have FJ := FT.out j (by omega)
      have SYJ := SY.out j (by omega)
      have SNJ := SN.out j (by omega)
      rw [hp] at tcell FJ SYJ SNJ
      have DP : Hid (∀ W, NdsAt W (some ⟨nb, no, none⟩) S → TestsAt W (some ⟨qb, qo, none⟩) q → Calls _ _ _ _ _) := fun W h1 h2 => D3.out p W hpn hpu h1 h2
      have htl := World.block_lt_of_cell? _ _ tcell
      have hnl := World.block_lt_of_cell? _ _ n1
      have K1 : Hid (isSoF S p q = true → kk + 1 = (((orderS S k).tail.take (j + 1)).filter (fun p => isSoF S p q)).length) := fun h => by
        rw [FJ, if_pos h, List.length_append, ← HKK.out]; rfl
      have K0 : Hid (isSoF S p q = false → kk = (((orderS S k).tail.take (j + 1)).filter (fun p => isSoF S p q)).length) := fun h => by
        rw [FJ, if_neg (by rw [h]; exact Bool.false_ne_true), List.append_nil]; exact HKK.out
      rw [← HKK.out] at SYJ SNJ
      clear FJ hp hpu
      generalize (nd S p).n = xn at *
      generalize isSoF S p q = so at *
      cases so with
      | true =>
        obtain ⟨y1, y2⟩ := SYJ rfl
        have y3 : (kk : Int) < (RL : Int) := by omega
        have HK1 : Hid _ := K1.out rfl
        have IR : Hid (∀ W, Below w3.heap.size w3 W → ∃ b o, fa = some ⟨b, o, none⟩ ∧ W.cell? ⟨b, o + kk, none⟩ = some (.int .i64 (p : Int))) := fun W hW => by
          obtain ⟨b, o, e, h⟩ := (HI3.out.below hW) kk (by rw [HRL.out]; exact y1)
          exact ⟨b, o, e, by rw [h, y2]⟩
        clear SYJ SNJ K1 K0 y2
        go_wp2_with fail
        go_region_held3 (fun w'' => w''.cell? ⟨w.heap.size, 0, none⟩ = some (.slice (some ⟨nb, no, none⟩) n c) ∧ w''.cell? ⟨nb, no + p * 8 + 1, none⟩ = some (.int .i64 xn)) (go_keep) (first | (go_at_call 13; refine Calls.mono (DP.out _ (HS.out.below HWr.out.drew) (HQ.out.below HWr.out.drew)) ?_; rintro e w4 ⟨rfl, hb4⟩; have HB4 : Hid (Below w3.heap.size w3 w4) := (HBr.out.drew).trans (hb4.mono HBr.out.size); have m0 : w4.cell? ⟨w.heap.size, 0, none⟩ = some (.slice (some ⟨nb, no, none⟩) n c) := (hb4.cell (by exact r0)).trans l0; have m1 : w4.cell? ⟨nb, no + p * 8 + 1, none⟩ = some (.int .i64 xn) := (hb4.cell (by exact hnl)).trans n1; clear hb4))
        obtain ⟨rb, ro, hfa, rcell⟩ := IR.out _ HB4.out
        subst hfa
        clear l0 l1 l2 l3 l4 l5 n1 tcell m1
        go_wp2
        go_roundg (OL - (j + 1))
        case measure => omega
        case rel => exact ⟨j + 1, kk + 1, by omega, by omega, by go_num, by go_num, HK1, HB4⟩
      | false =>
        have HK0 : Hid _ := K0.out rfl
        have hno := SNJ rfl
        by_cases y1 : kk < RL
        · have y3 : (kk : Int) < (RL : Int) := by omega
          have IR : Hid (∀ W, Below w3.heap.size w3 W → ∃ b o, fa = some ⟨b, o, none⟩ ∧ W.cell? ⟨b, o + kk, none⟩ = some (.int .i64 (R.getD kk 0))) := fun W hW => (HI3.out.below hW) kk (by rw [HRL.out]; exact y1)
          have hne : (R.getD kk 0 == (p : Int)) = false := beq_eq_false_iff_ne.2 (fun e => hno ⟨y1, e⟩)
          clear SYJ SNJ K1 K0 hno
          generalize R.getD kk 0 = y at *
          go_wp2_with fail
          go_region_held3 (fun w'' => w''.cell? ⟨w.heap.size, 0, none⟩ = some (.slice (some ⟨nb, no, none⟩) n c) ∧ w''.cell? ⟨nb, no + p * 8 + 1, none⟩ = some (.int .i64 xn)) (go_keep) (first | (go_at_call 13; refine Calls.mono (DP.out _ (HS.out.below HWr.out.drew) (HQ.out.below HWr.out.drew)) ?_; rintro e w4 ⟨rfl, hb4⟩; have HB4 : Hid (Below w3.heap.size w3 w4) := (HBr.out.drew).trans (hb4.mono HBr.out.size); have m0 : w4.cell? ⟨w.heap.size, 0, none⟩ = some (.slice (some ⟨nb, no, none⟩) n c) := (hb4.cell (by exact r0)).trans l0; have m1 : w4.cell? ⟨nb, no + p * 8 + 1, none⟩ = some (.int .i64 xn) := (hb4.cell (by exact hnl)).trans n1; clear hb4))
          obtain ⟨rb, ro, hfa, rcell⟩ := IR.out _ HB4.out
          subst hfa
          clear l0 l1 l2 l3 l4 l5 n1 tcell m1
          go_wp2
          go_roundg (OL - (j + 1))
          case measure => omega
          case rel => exact ⟨j + 1, kk, by omega, by omega, by go_num, by go_num, HK0, HB4⟩
        · have y3 : decide ((kk : Int) < (RL : Int)) = false := decide_eq_false (by omega)
          clear SYJ SNJ K1 K0 hno
          go_wp2_with fail
          go_region_held3 (fun w'' => w''.cell? ⟨w.heap.size, 0, none⟩ = some (.slice (some ⟨nb, no, none⟩) n c) ∧ w''.cell? ⟨nb, no + p * 8 + 1, none⟩ = some (.int .i64 xn)) (go_keep) (first | (go_at_call 13; refine Calls.mono (DP.out _ (HS.out.below HWr.out.drew) (HQ.out.below HWr.out.drew)) ?_; rintro e w4 ⟨rfl, hb4⟩; have HB4 : Hid (Below w3.heap.size w3 w4) := (HBr.out.drew).trans (hb4.mono HBr.out.size); have m0 : w4.cell? ⟨w.heap.size, 0, none⟩ = some (.slice (some ⟨nb, no, none⟩) n c) := (hb4.cell (by exact r0)).trans l0; have m1 : w4.cell? ⟨nb, no + p * 8 + 1, none⟩ = some (.int .i64 xn) := (hb4.cell (by exact hnl)).trans n1; clear hb4))
          clear l0 l1 l2 l3 l4 l5 n1 tcell m1
          go_wp2
          go_roundg (OL - (j + 1))
          case measure => omega
          case rel => exact ⟨j + 1, kk, by omega, by omega, by go_num, by go_num, HK0, HB4⟩
    · have hj' : j = OL := by omega
      subst hj'
      have hkk : kk = RL := by
        rw [HKK.out, ← HRL.out, FE.out]
      subst hkk
      clear HKK FT SY SN EACH TL D3 HT3 HIr hlt
      obtain ⟨i0, hi0, hz0, hz1, hz2⟩ := info_parts infoTest
      have hb63 : L + 1 ≤ maxLen := by unfold maxLen; omega
      have hb47 : (L + 1) * 24 ≤ 140737488355328 := by omega
      go_wp2
      go_region_held3 (fun w'' => w''.cell? ⟨w.heap.size + 1 + 1, 0, none⟩ = some (.int .i64 tt) ∧ w''.cell? ⟨w.heap.size + 1 + 1, 1, none⟩ = some (.int .i64 tm) ∧ w''.cell? ⟨w.heap.size + 1 + 1, 2, none⟩ = some (.bool tn)) (go_keep) (first
        | (go_at_call 21; refine Calls.mono (DC.out _ (HQ.out.below ((HWr.out.alloc HWr.out.size _).drew))) ?_; rintro e w5 ⟨g5, cap5, rfl, hb5, ho5⟩; have m3 : w5.cell? ⟨w.heap.size + 1 + 1, 0, none⟩ = some (.int .i64 tt) := (hb5.cell (by simp; omega)).trans (one_more l3 _); have m4 : w5.cell? ⟨w.heap.size + 1 + 1, 1, none⟩ = some (.int .i64 tm) := (hb5.cell (by simp; omega)).trans (one_more l4 _); have m5 : w5.cell? ⟨w.heap.size + 1 + 1, 2, none⟩ = some (.bool tn) := (hb5.cell (by simp; omega)).trans (one_more l5 _); have hr5 : w.heap.size + 1 + 1 < w5.heap.size := World.block_lt_of_cell? _ _ m3; have HO5 : Hid (w5.ownsRow wr.heap.size 45 3 (.slice (some ⟨g5, 0, none⟩) L cap5) L (tcells q)) := ownsRow_base ho5 (by simp); have HB5 : Hid (Below wr.heap.size wr w5) := ((Below.refl wr.heap.size wr).alloc (Nat.le_refl _) _).drew.trans (hb5.mono (by simp)); have HN5 : Hid (w5.cell? ⟨wr.heap.size, 0, none⟩ = some (.int .i64 tt) ∧ w5.cell? ⟨wr.heap.size, 1, none⟩ = some (.int .i64 tm) ∧ w5.cell? ⟨wr.heap.size, 2, none⟩ = some (.bool tn)) := ⟨(hb5.cell (by simp)).trans (by go_simp), (hb5.cell (by simp)).trans (by go_simp), (hb5.cell (by simp)).trans (by go_simp)⟩; clear hb5 ho5)
        | (go_at_call 21; refine Calls.mono (DC.out _ (HQ.out.below (HWr.out.drew))) ?_; rintro e w5 ⟨g5, cap5, rfl, hb5, ho5⟩; have m3 : w5.cell? ⟨w.heap.size + 1 + 1, 0, none⟩ = some (.int .i64 tt) := (hb5.cell (by exact r2)).trans l3; have m4 : w5.cell? ⟨w.heap.size + 1 + 1, 1, none⟩ = some (.int .i64 tm) := (hb5.cell (by exact r2)).trans l4; have m5 : w5.cell? ⟨w.heap.size + 1 + 1, 2, none⟩ = some (.bool tn) := (hb5.cell (by exact r2)).trans l5; have hr5 : w.heap.size + 1 + 1 < w5.heap.size := World.block_lt_of_cell? _ _ m3; have HO5 : Hid (w5.ownsRow wr.heap.size 45 3 (.slice (some ⟨g5, 0, none⟩) L cap5) L (tcells q)) := ownsRow_base ho5 (by simp); have HB5 : Hid (Below wr.heap.size wr w5) := (Below.refl wr.heap.size wr).drew.trans hb5; have HN5 : Hid True := trivial; clear hb5 ho5)
        | (refine step_append_own rfl (.tmp 94) (.tmp 96) 37 rfl wr.heap.size 45 i0 (.agg #[.int .i64 0, .int .i64 0, .bool false]) 3 24 Try.underlying37 hi0 hz0 hz1 hz2 rfl (by decide) (.slice (some ⟨g5, 0, none⟩) L cap5) L (tcells q) rfl (HO5.out) ⟨wr.heap.size, 0, none⟩ 1 1 [.int .i64 tt, .int .i64 tm, .bool tn] rfl rfl (news3 HN5.out.1 HN5.out.2.1 HN5.out.2.2) one3 hb63 hb47 (HB5.out.size) ?_; intro v6 w6 hown6 hgrow6; have HB6 : Hid (Below wr.heap.size wr w6) := HB5.out.grown hgrow6 HB5.out.size (fun k hk => (HO5.out.lt k hk).1); have HO6 : Hid (w6.ownsRow wr.heap.size 45 3 v6 (L + 1) (tcells q ++ [.int .i64 tt, .int .i64 tm, .bool tn])) := hown6; have n3 : w6.cell? ⟨w.heap.size + 1 + 1, 0, none⟩ = some (.int .i64 tt) := (HB6.out.cell (by exact r2)).trans l3; have n4 : w6.cell? ⟨w.heap.size + 1 + 1, 1, none⟩ = some (.int .i64 tm) := (HB6.out.cell (by exact r2)).trans l4; have n5 : w6.cell? ⟨w.heap.size + 1 + 1, 2, none⟩ = some (.bool tn) := (HB6.out.cell (by exact r2)).trans l5; clear hown6 hgrow6)
        | (refine step_append_own rfl (.tmp 94) (.tmp 96) 37 rfl wr.heap.size 45 i0 (.agg #[.int .i64 0, .int .i64 0, .bool false]) 3 24 Try.underlying37 hi0 hz0 hz1 hz2 rfl (by decide) (.slice (some ⟨g5, 0, none⟩) L cap5) L (tcells q) rfl (HO5.out.alloc _) ⟨w5.heap.size, 0, none⟩ 1 1 [.int .i64 tt, .int .i64 tm, .bool tn] rfl rfl (news3 (by go_simp) (by go_simp) (by go_simp)) one3 hb63 hb47 (by have := HB5.out.size; simp; omega) ?_; intro v6 w6 hown6 hgrow6; have HB6 : Hid (Below wr.heap.size wr w6) := (HB5.out.alloc HB5.out.size _).grown hgrow6 (by have := HB5.out.size; simp; omega) (fun k hk => (HO5.out.lt k hk).1); have HO6 : Hid (w6.ownsRow wr.heap.size 45 3 v6 (L + 1) (tcells q ++ [.int .i64 tt, .int .i64 tm, .bool tn])) := hown6; have n3 : w6.cell? ⟨w.heap.size + 1 + 1, 0, none⟩ = some (.int .i64 tt) := (HB6.out.cell (by exact r2)).trans l3; have n4 : w6.cell? ⟨w.heap.size + 1 + 1, 1, none⟩ = some (.int .i64 tm) := (HB6.out.cell (by exact r2)).trans l4; have n5 : w6.cell? ⟨w.heap.size + 1 + 1, 2, none⟩ = some (.bool tn) := (HB6.out.cell (by exact r2)).trans l5; clear hown6 hgrow6)
        | fail)
      all_goals
        obtain ⟨g6, cap6, hv6⟩ : ∃ g6 cap6, v6 = .slice (some ⟨g6, 0, none⟩) (L + 1) cap6 := by
          rcases HO6.out.2 with ⟨_, h⟩ | ⟨g6, cap6, cur, h, _⟩
          · omega
          · exact ⟨g6, cap6, h⟩
        subst hv6
        have HG6 : Hid (wr.heap.size ≤ g6 ∧ g6 < w6.heap.size ∧ ∀ W : World, Below w6.heap.size w6 W → ∀ o, W.frozen? ⟨g6, o, none⟩ = false) := by
          obtain ⟨h1, h2⟩ := HO6.out.lt g6 rfl
          refine ⟨h1, h2, fun W hW o => ?_⟩
          rcases HO6.out.2 with ⟨h, _⟩ | ⟨g', cap', cur, h, _, hcur, _⟩
          · cases h
          · cases h
            rw [hW.frozen (by exact h2)]
            simp [World.frozen?, hcur]
        have HTQ : Hid (TestsAt w6 (some ⟨g6, 0, none⟩) (q ++ [⟨tt, tm, tn⟩])) := tests_own (B := wr.heap.size) (n := L + 1) (cap := cap6) (by rw [tcells_snoc]; exact HO6.out)
        have HR6 : Hid (Below (w.heap.size + 1 + 1 + 1) (((w.alloc (.cells #[.slice a n c] 24)).alloc (.cells #[.int .i64 (k : Int), .int .i64 u] 26)).alloc (.cells #[.int .i64 tt, .int .i64 tm, .bool tn] 45)) w6) := HRr.out.trans (HB6.out.mono (by omega))
        have HLq : Hid ((q ++ [(⟨tt, tm, tn⟩ : Tst)]).length = L + 1) := by show _ = _; rw [List.length_append, HL.out]; rfl
        have HLq2 : Hid ((q ++ [(⟨tt, tm, false⟩ : Tst)]).length = L + 1) := by show _ = _; rw [List.length_append, HL.out]; rfl
        have hz6 := HB6.out.size
        clear m3 m4 m5 n3 n4 n5 hr5 HO5 HB5 HN5
        clear l0 l1 l2 l3 l4 l5 r0 r1 r2
        obtain ⟨l0, l1, l2, l3, l4, l5, l6, r0, r1, r2⟩ := finds_low HR6.out
        clear l6
        by_cases e4 : qcheckE (q ++ [⟨tt, tm, tn⟩]) = 0
        · have E5 : Hid (qcheckE [⟨tt, tm, false⟩] = 0) := qcheck_alone3 e4
          have E6 : Hid (qcheckE (q ++ [⟨tt, tm, false⟩]) = 0) := qcheck_far3 (by rw [HL.out]; exact HQ1.out) e4
          have KN : Hid (k < S.length) := by show k < S.length; rw [HN.out]; exact hk
          have D4 : Hid _ := qfind_ok a c S k u (some ⟨g6, 0, none⟩) cap6 (q ++ [⟨tt, tm, tn⟩]) w6 HWF.out KN.out HKU.out HTC.out (HS.out.below ((three_below _ _ _ _).trans (HR6.out.mono (by omega)))) HTQ.out e4
          have D5 : Hid (∀ b W, NdsAt W a S → TestsAt W (some ⟨b, 0, none⟩) [⟨tt, tm, false⟩] → Calls _ _ _ _ _) := fun b W h1 h2 => qfind_ok a c S k u (some ⟨b, 0, none⟩) 1 [⟨tt, tm, false⟩] W HWF.out KN.out HKU.out HTC.out h1 h2 E5.out
          obtain ⟨q2, hq2⟩ : ∃ q2, q ++ [⟨tt, tm, false⟩] = q2 := ⟨_, rfl⟩
          have FF : Hid ((foundF S k (q ++ [⟨tt, tm, tn⟩])).any (fun x => !decide (x ∈ foundF S k (q ++ [⟨tt, tm, false⟩]))) = false) := found_far3 HWF.out KN.out q tt tm tn
          have TF : Hid (∀ W, TestsAt W (some ⟨g6, 0, none⟩) (q ++ [⟨tt, tm, tn⟩]) → TestsAt (W.setCell ⟨g6, L * 3 + 2, none⟩ (.bool false)) (some ⟨g6, 0, none⟩) (q ++ [⟨tt, tm, false⟩])) := fun W hW => by have := tests_far hW; rw [HL.out] at this; exact this
          rw [hq2] at E6 FF TF HLq2
          have D6 : Hid (∀ W, NdsAt W a S → TestsAt W (some ⟨g6, 0, none⟩) q2 → Calls _ _ _ _ _) := fun W h1 h2 => qfind_ok a c S k u (some ⟨g6, 0, none⟩) cap6 q2 W HWF.out KN.out HKU.out HTC.out h1 h2 E6.out
          clear hq2
          have FA : Hid ((foundF S k (q ++ [⟨tt, tm, tn⟩])).any (fun x => !decide (x ∈ foundF S k [⟨tt, tm, false⟩])) = false) := found_alone3 S k q tt tm tn
          have TC : Hid (∀ W, TestsAt W (some ⟨g6, 0, none⟩) (q ++ [⟨tt, tm, tn⟩]) → W.cell? ⟨g6, L * 3 + 2, none⟩ = some (.bool tn)) := fun W hW => by
            obtain ⟨b, o, e, _, _, h3⟩ := hW L (by rw [HLq.out]; omega)
            cases e
            rw [Nat.zero_add] at h3
            rw [h3]
            unfold tst
            rw [← HL.out]
            simp [List.getD]
          rw [HN.out, HLq.out] at D4
          rw [HN.out] at D5
          rw [HN.out, HLq2.out] at D6
          clear e4
          have H1L : Hid (([⟨tt, tm, false⟩] : List Tst).length = 1) := rfl
          rw [H1L.out] at D5
          obtain ⟨M, hM⟩ : ∃ M, foundF S k (q ++ [⟨tt, tm, tn⟩]) = M := ⟨_, rfl⟩
          obtain ⟨A, hA⟩ : ∃ A, foundF S k [⟨tt, tm, false⟩] = A := ⟨_, rfl⟩
          obtain ⟨F, hF⟩ : ∃ F, foundF S k q2 = F := ⟨_, rfl⟩
          rw [hM] at D4
          rw [hA] at D5
          rw [hF] at D6
          rw [hM, hA] at FA
          rw [hM, hF] at FF
          clear hM hA hF
          obtain ⟨ML, hML⟩ : ∃ ML, M.length = ML := ⟨_, rfl⟩
          obtain ⟨AL, hAL⟩ : ∃ AL, A.length = AL := ⟨_, rfl⟩
          obtain ⟨FL0, hFL⟩ : ∃ FL0, F.length = FL0 := ⟨_, rfl⟩
          rw [hML] at D4
          rw [hAL] at D5
          rw [hFL] at D6
          have HML : Hid (M.length = ML) := hML
          have HAL : Hid (A.length = AL) := hAL
          have HFL : Hid (F.length = FL0) := hFL
          clear hML hAL hFL
          go_wp2_with fail
          refine Calls.mono D4.out ?_
          rintro e w7 ⟨ma, mc, rfl, hb7, hI7, hM24, hMn⟩
          have HR7 : Hid (Below (w.heap.size + 1 + 1 + 1) (((w.alloc (.cells #[.slice a n c] 24)).alloc (.cells #[.int .i64 (k : Int), .int .i64 u] 26)).alloc (.cells #[.int .i64 tt, .int .i64 tm, .bool tn] 45)) w7) := HR6.out.trans (hb7.mono (by omega))
          have HTQ7 : Hid (TestsAt w7 (some ⟨g6, 0, none⟩) (q ++ [⟨tt, tm, tn⟩])) := HTQ.out.below hb7
          have HM7 : Hid (IntsAt w7 ma M) := hI7
          have HMN : Hid (∀ x : Addr, ma = some x → w6.heap.size ≤ x.block) := hMn
          have HB67 : Hid (Below w6.heap.size w6 w7) := hb7
          have hz7 := hb7.size
          clear hb7 hI7 hMn
          clear l0 l1 l2 l3 l4 l5 r0 r1 r2
          obtain ⟨l0, l1, l2, l3, l4, l5, l6, r0, r1, r2⟩ := finds_low HR7.out
          clear l6
          go_wp2_with fail
          refine Calls.mono (D5.out _ _ (HS.out.below (((three_below _ _ _ _).trans (HR7.out.mono (by omega))).alloc (by omega) _)) (tests_one (by go_simp) (by go_simp) (by go_simp))) ?_
          rintro e w8 ⟨aa, ac, rfl, hb8, hI8, hA24, _⟩
          simp only [World.size_alloc] at hb8
          have hb78 : Below w7.heap.size w7 w8 := ((Below.refl _ _).alloc (Nat.le_refl _) _).trans (hb8.mono (by omega))
          have HR8 : Hid (Below (w.heap.size + 1 + 1 + 1) (((w.alloc (.cells #[.slice a n c] 24)).alloc (.cells #[.int .i64 (k : Int), .int .i64 u] 26)).alloc (.cells #[.int .i64 tt, .int .i64 tm, .bool tn] 45)) w8) := HR7.out.trans (hb78.mono (by omega))
          have HTQ8 : Hid (TestsAt w8 (some ⟨g6, 0, none⟩) (q ++ [⟨tt, tm, tn⟩])) := HTQ7.out.below hb78
          have HM8 : Hid (IntsAt w8 ma M) := HM7.out.below hb78
          have HA8 : Hid (IntsAt w8 aa A) := hI8
          have HB68 : Hid (Below w6.heap.size w6 w8) := HB67.out.trans (hb78.mono HB67.out.size)
          have hz8 := hb78.size
          clear hb8 hb78 hI8
          clear l0 l1 l2 l3 l4 l5 r0 r1 r2
          obtain ⟨l0, l1, l2, l3, l4, l5, l6, r0, r1, r2⟩ := finds_low HR8.out
          clear l6
          have X8 : Hid (∀ o1, Below w8.heap.size w8 (w8.alloc o1)) := fun o1 => (Below.refl _ _).alloc (Nat.le_refl _) o1
          have CF1 : Hid (∀ W, W.cell? ⟨w8.heap.size, 0, none⟩ = some (.slice aa AL ac) → IntsAt W aa A → IntsAt W ma M → Calls _ _ _ _ _) := fun W h1 h2 h3 => allIn1_any w8.heap.size aa ma ac mc A M W (by rw [HAL.out]; omega) (by rw [HML.out]; omega) (by rw [HAL.out]; exact h1) h2 h3
          rw [FA.out, HML.out] at CF1
          go_wp2_with fail
          refine Calls.mono (CF1.out _ (by go_simp) (HA8.out.below (X8.out _)) (HM8.out.below (X8.out _))) ?_
          rintro e w9 ⟨rfl, hb9⟩
          simp only [World.size_alloc] at hb9
          have hb89 : Below w8.heap.size w8 w9 := (X8.out _).trans (hb9.mono (by omega))
          have HR9 : Hid (Below (w.heap.size + 1 + 1 + 1) (((w.alloc (.cells #[.slice a n c] 24)).alloc (.cells #[.int .i64 (k : Int), .int .i64 u] 26)).alloc (.cells #[.int .i64 tt, .int .i64 tm, .bool tn] 45)) w9) := HR8.out.trans (hb89.mono (by omega))
          have HTQ9 : Hid (TestsAt w9 (some ⟨g6, 0, none⟩) (q ++ [⟨tt, tm, tn⟩])) := HTQ8.out.below hb89
          have HM9 : Hid (IntsAt w9 ma M) := HM8.out.below hb89
          have HB69 : Hid (Below w6.heap.size w6 w9) := HB68.out.trans (hb89.mono HB68.out.size)
          have hz9 := hb89.size
          clear hb9 hb89
          clear l0 l1 l2 l3 l4 l5 r0 r1 r2
          obtain ⟨l0, l1, l2, l3, l4, l5, l6, r0, r1, r2⟩ := finds_low HR9.out
          clear l6
          have tc9 := TC.out _ HTQ9.out
          have tf9 := HG6.out.2.2 _ HB69.out
          have hg6 := HG6.out.2.1
          have hg6r := HG6.out.1
          have hzr := HRr.out.size
          simp only [World.size_alloc] at hzr
          have HT10 : Hid _ := TF.out _ HTQ9.out
          have HM10 : Hid (IntsAt (w9.setCell ⟨g6, L * 3 + 2, none⟩ (.bool false)) ma M) := ints_set HM9.out (fun x hx e => by have := HMN.out x hx; omega)
          have HW10 : Hid (Below w.heap.size w (w9.setCell ⟨g6, L * 3 + 2, none⟩ (.bool false))) := (((three_below _ _ _ _).trans (HR9.out.mono (by omega))).setCell (by show w.heap.size ≤ g6; omega) _)
          have L10 : Hid (Below (w.heap.size + 1 + 1 + 1) (((w.alloc (.cells #[.slice a n c] 24)).alloc (.cells #[.int .i64 (k : Int), .int .i64 u] 26)).alloc (.cells #[.int .i64 tt, .int .i64 tm, .bool tn] 45)) (w9.setCell ⟨g6, L * 3 + 2, none⟩ (.bool false))) := HR9.out.setCell (by show w.heap.size + 1 + 1 + 1 ≤ g6; omega) _
          have HZ10 : Hid ((w9.setCell ⟨g6, L * 3 + 2, none⟩ (.bool false)).heap.size = w9.heap.size) := by show _ = _; simp
          go_wp2_with fail
          refine Calls.mono (D6.out _ (HS.out.below HW10.out) HT10.out) ?_
          rintro e w11 ⟨na, nc, rfl, hb11, hI11, hF24, _⟩
          have HM11 : Hid (IntsAt w11 ma M) := HM10.out.below hb11
          have HF11 : Hid (IntsAt w11 na F) := hI11
          have HW11 : Hid (Below w.heap.size w w11) := HW10.out.trans (hb11.mono HW10.out.size)
          have X11 : Hid (∀ o1, Below w11.heap.size w11 (w11.alloc o1)) := fun o1 => (Below.refl _ _).alloc (Nat.le_refl _) o1
          have CF2 : Hid (∀ W, W.cell? ⟨w11.heap.size, 0, none⟩ = some (.slice na FL0 nc) → IntsAt W na F → IntsAt W ma M → Calls _ _ _ _ _) := fun W h1 h2 h3 => allIn2_any w11.heap.size na ma nc mc F M W (by rw [HFL.out]; omega) (by rw [HML.out]; omega) (by rw [HFL.out]; exact h1) h2 h3
          rw [FF.out, HML.out] at CF2
          clear hb11 hI11 l0 l1 l2 l3 l4 l5 r0 r1 r2 tc9 tf9
          go_wp2_with (go_at_call 22; refine Calls.mono (CF2.out _ (by go_simp) (HF11.out.below (X11.out _)) (HM11.out.below (X11.out _))) ?_; rintro e w12 ⟨rfl, hb12⟩; have HE : Hid (Below w.heap.size w w12) := (HW11.out.trans ((X11.out _).mono HW11.out.size)).trans (hb12.mono (by simp; have := HW11.out.size; omega)); clear hb12)
          go_ret
          exact ⟨rfl, HE.out⟩
        · have KN : Hid (k < S.length) := by show k < S.length; rw [HN.out]; exact hk
          obtain ⟨q1, hq1⟩ : ∃ q1, q ++ [⟨tt, tm, tn⟩] = q1 := ⟨_, rfl⟩
          rw [hq1] at HTQ HLq e4
          obtain ⟨E4, hE4⟩ : ∃ E4, qcheckE q1 = E4 := ⟨_, rfl⟩
          have D4 : Hid _ := qfind_bad a c S k u E4 (some ⟨g6, 0, none⟩) cap6 q1 w6 HWF.out KN.out HTC.out (HS.out.below ((three_below _ _ _ _).trans (HR6.out.mono (by omega)))) (by rw [HLq.out]; omega) HTQ.out hE4 (by rw [← hE4]; exact e4)
          have D5 : Hid (∀ b W, NdsAt W a S → TestsAt W (some ⟨b, 0, none⟩) [⟨tt, tm, false⟩] → Calls Try.prog 14 #[.agg #[.slice a S.length c], .agg #[.int .i64 (k : Int), .int .i64 u], .slice (some ⟨b, 0, none⟩) 1 1] W fun e w' => ∃ sa sn sc F, e = .returned (.tuple #[.slice sa sn sc, .int .i64 F]) ∧ Below W.heap.size W w') := fun b W h1 h2 => by
            by_cases e5 : qcheckE [⟨tt, tm, false⟩] = 0
            · exact Calls.mono (qfind_ok a c S k u (some ⟨b, 0, none⟩) 1 [⟨tt, tm, false⟩] W HWF.out KN.out HKU.out HTC.out h1 h2 e5) (fun e w' ⟨fa, fc, g1, g2, _⟩ => ⟨_, _, _, _, g1, g2⟩)
            · exact Calls.mono (qfind_bad a c S k u _ (some ⟨b, 0, none⟩) 1 [⟨tt, tm, false⟩] W HWF.out KN.out HTC.out h1 (by simp) h2 rfl e5) (fun e w' ⟨g1, g2⟩ => ⟨_, _, _, _, g1, g2⟩)
          rw [HN.out, HLq.out] at D4
          rw [HN.out] at D5
          have hz4 : (E4 == 0) = false := by simp [← hE4, e4]
          clear e4 hE4 hq1
          go_wp2_with fail
          refine Calls.mono D4.out ?_
          rintro e w7 ⟨rfl, hb7⟩
          have HR7 : Hid (Below (w.heap.size + 1 + 1 + 1) (((w.alloc (.cells #[.slice a n c] 24)).alloc (.cells #[.int .i64 (k : Int), .int .i64 u] 26)).alloc (.cells #[.int .i64 tt, .int .i64 tm, .bool tn] 45)) w7) := HR6.out.trans (hb7.mono (by omega))
          have hz7 := hb7.size
          clear hb7
          clear l0 l1 l2 l3 l4 l5 r0 r1 r2
          obtain ⟨l0, l1, l2, l3, l4, l5, l6, r0, r1, r2⟩ := finds_low HR7.out
          clear l6
          go_wp2_with fail
          refine Calls.mono (D5.out _ _ (HS.out.below (((three_below _ _ _ _).trans (HR7.out.mono (by omega))).alloc (by omega) _)) (tests_one (by go_simp) (by go_simp) (by go_simp))) ?_
          rintro e w8 ⟨sa8, sn8, sc8, F8, rfl, hb8⟩
          simp only [World.size_alloc] at hb8
          have HW8 : Hid (Below w.heap.size w w8) := (((three_below _ _ _ _).trans (HR7.out.mono (by omega))).alloc (by omega) _).trans (hb8.mono (by omega))
          clear hb8 l0 l1 l2 l3 l4 l5 r0 r1 r2
          go_wp2
          go_ret
          exact ⟨rfl, HW8.out.alloc HW8.out.size _⟩
end Go.Proofs.Ytjlapfgghljidab
