/-
  SlotOnce at whatever arguments.
-/
import Derived.Test.YtlgnapdhnlhkpaaULk
import Derived.Test.YtlgnapdhnlhkpaaULrLoRjRrZkRs
import Derived.BigQuiet
import Derived.Deep.RegionHeld3
namespace Go.Proofs.Ytlgnapdhnlhkpaa
open Go.RowKit

theorem tcheck_is_findT (S : List Nd) (p u : Int) : tcheckE S [(p, u)] = findE S p u := by
  unfold tcheckE findE handsE handsE
  by_cases h : holdsE S p u = 0
  · simp [h]
  · simp [h]

theorem wf_place {q : Nat} (h : q ≤ 24) : (Lit.int .i64 (q : Int)).wf = true := by
  unfold Lit.wf
  simp [IntKind.min, IntKind.max, IntKind.signed, IntKind.bits]
  omega

theorem MarksAt.mono {w : World} {b n n' : Nat} {f : Int → Bool} (h : MarksAt w b n f) (hn : n ≤ n') : MarksAt w b n' f := let ⟨D, h1, h2⟩ := h; ⟨D, h1.mono hn, h2⟩
theorem MarksAt.congr {w : World} {b n : Nat} {f g : Int → Bool} (h : MarksAt w b n f) (e : ∀ k, f k = g k) : MarksAt w b n g := by
  have : f = g := funext e
  rw [← this]
  exact h

theorem lastHost_take {S : List Nd} {acc : Int} {P : List Int} {i y : Nat} (hi : i < P.length) (hy : P.getD i 0 = y) : lastHost S acc (P.take (i + 1)) = if 0 ≤ (nd S y).h then (nd S y).h else lastHost S acc (P.take i) := by
  rw [getD_elem P 0 hi] at hy
  unfold lastHost
  rw [List.take_succ_eq_append_getElem hi, List.foldl_append, hy]
  simp

theorem path_line {S : List Nd} {k : Nat} (hk : k < S.length) : lineF S (S.length + 1) (k : Int) = pathF S k := by
  rw [lineF, if_pos (isPl_nat.2 hk), Int.toNat_natCast]
  rfl

theorem nodup_take_not {l : List Int} (h : l.Nodup) {i : Nat} (hi : i < l.length) {x : Int} (hx : l.getD i 0 = x) : x ∉ l.take i := by
  rw [getD_elem l 0 hi] at hx
  intro hm
  have h1 := List.take_succ_eq_append_getElem hi
  have h2 : (l.take (i + 1)).Nodup := List.Sublist.nodup (List.take_sublist _ _) h
  rw [h1, List.nodup_append] at h2
  exact h2.2.2 x hm l[i] (by simp) hx.symm

theorem mem_take_step {l : List Int} {i : Nat} (hi : i < l.length) {x : Int} (hx : l.getD i 0 = x) (j : Int) : decide (j ∈ l.take (i + 1)) = if j = x then true else decide (j ∈ l.take i) := by
  rw [getD_elem l 0 hi] at hx
  rw [List.take_succ_eq_append_getElem hi, hx]
  by_cases e : j = x
  · simp [e]
  · simp [e]

theorem flat_head (S : List Nd) (k : Nat) : ∃ r, flatF S k = (k : Int) :: r := by
  obtain ⟨f, hf⟩ : ∃ f, farF S = f + 1 := ⟨farF S - 1, by have : 0 < farF S := Nat.pow_pos (by omega); omega⟩
  unfold flatF
  rw [hf]
  exact ⟨_, rfl⟩

theorem flat_take_not {L : List Slt} (h : (L.flatMap Slt.gv).Nodup) {j i : Nat} (hj : j < L.length) (hi : i < (slt L j).gv.length) {x : Int} (hx : (slt L j).gv.getD i 0 = x) : x ∉ (L.take j).flatMap Slt.gv ++ (slt L j).gv.take i := by
  have e : (L.take (j + 1)).flatMap Slt.gv = (L.take j).flatMap Slt.gv ++ (slt L j).gv := by
    rw [List.take_succ_eq_append_getElem hj, List.flatMap_append, slt_elem hj]
    simp
  have h1 : ((L.take (j + 1)).flatMap Slt.gv).Nodup := by
    have e2 := List.take_append_drop (j + 1) L
    rw [← e2, List.flatMap_append, List.nodup_append] at h
    exact h.1
  rw [e, List.nodup_append] at h1
  rw [List.mem_append]
  rintro (h2 | h2)
  · exact h1.2.2 x h2 x (by rw [← hx, getD_elem _ _ hi]; exact List.getElem_mem hi) rfl
  · exact nodup_take_not h1.2.1 hi hx h2

theorem flat_take_step {A l : List Int} {i : Nat} (hi : i < l.length) {x : Int} (hx : l.getD i 0 = x) (j : Int) : (if j = x then true else decide (j ∈ A ++ l.take i)) = decide (j ∈ A ++ l.take (i + 1)) := by
  have := mem_take_step hi hx j
  by_cases e : j = x
  · rw [if_pos e] at this ⊢
    simp at this
    simp [this]
  · rw [if_neg e] at this ⊢
    have h2 : (j ∈ l.take (i + 1)) ↔ (j ∈ l.take i) := by simpa using this
    simp [List.mem_append, h2]

theorem flat_take_all {L : List Slt} {j : Nat} (hj : j < L.length) : (L.take j).flatMap Slt.gv ++ (slt L j).gv = (L.take (j + 1)).flatMap Slt.gv := by
  rw [List.take_succ_eq_append_getElem hj, List.flatMap_append, slt_elem hj]
  simp

set_option maxRecDepth 100000 in
set_option maxHeartbeats 2000000 in
theorem slotOnce_err (a : Option Addr) (c : Nat) (S : List Nd) (p u E : Int) (w : World) (hN : S.length ≤ 9223372036854775807) (hB : Big S) (hS : NdsAt w a S) (hE : findE S p u = E) (hE0 : E ≠ 0) :
    Calls Try.prog 4 #[.agg #[.slice a S.length c], .agg #[.int .i64 p, .int .i64 u]] w fun e w' => e = .returned (.bool true) ∧ Below w.heap.size w w' := by
  have D : Hid (∀ W, NdsAt W a S → Calls _ _ _ _ _) := fun W hW => flat_err a c S p u E W hN hB hW hE hE0
  have DP : Hid PlacedOk := placed_ok
  have HS : Hid (NdsAt w a S) := hS
  have e1 : (E == 0) = false := beq_eq_false_iff_ne.2 hE0
  have e2 : decide (E = 0) = false := decide_eq_false hE0
  clear hS hE hB
  generalize S.length = n at *
  go_enter Try.func4, Try.ntmps4
  go_wp2_with fail
  refine Calls.mono (D.out _ (HS.out.below (two_belowS _ _ _))) ?_
  rintro e w1 ⟨rfl, hb⟩
  have HB : Hid (Below w.heap.size w w1) := (two_belowS w _ _).trans (hb.mono (by simp; omega))
  clear hb
  go_wp2_with fail
  refine Calls.mono (DP.out _) ?_
  rintro e w3 ⟨rfl, hb⟩
  have HB3 : Hid (Below w.heap.size w w3) := HB.out.trans (hb.mono HB.out.size)
  clear hb
  go_wp2_with fail
  refine Calls.mono (DP.out _) ?_
  rintro e w4 ⟨rfl, hb⟩
  have HB4 : Hid (Below w.heap.size w w4) := HB3.out.trans (hb.mono HB3.out.size)
  clear hb
  go_wp2_with fail
  go_ret
  exact ⟨rfl, HB4.out⟩

set_option maxRecDepth 100000 in
set_option maxHeartbeats 8000000 in
theorem slotOnce_ok (a : Option Addr) (c : Nat) (S : List Nd) (k : Nat) (u : Int) (w : World) (wf : WF S) (hS : NdsAt w a S) (hk : k < S.length) (hE : findE S k u = 0) :
    Calls Try.prog 4 #[.agg #[.slice a S.length c], .agg #[.int .i64 (k : Int), .int .i64 u]] w fun e w' => e = .returned (.bool true) ∧ Below w.heap.size w w' := by
  have hN := wf.small
  have hku : (nd S k).u = true := by
    obtain ⟨_, k', e, _, hu, _⟩ := find_used hE
    have : k = k' := by omega
    rw [this]
    exact hu
  have D : Hid (∀ W, NdsAt W a S → Calls _ _ _ _ _) := fun W hW => flat_ok a c S k u W wf hW hk hE
  have DP : Hid PlacedOk := placed_ok
  have DL : Hid (∀ (q : Nat), q < S.length → ∀ W, NdsAt W a S → Calls Try.prog 16 #[.agg #[.slice a S.length c], .int .i64 (q : Int)] W fun e w' => ∃ sa sc, e = .returned (.slice sa (pathF S q).length sc) ∧ Below W.heap.size W w' ∧ IntsAt w' sa (pathF S q)) := fun q hq W hW => by
    have h := rLine_any a c S (q : Int) W hN hW
    rw [path_line hq] at h
    refine h.mono ?_
    rintro e w' ⟨v, rfl, hb, hown⟩
    obtain ⟨sa, sc, rfl, hi⟩ := ints_own hown
    exact ⟨sa, sc, rfl, hb, hi⟩
  have DU : Hid (∀ (q : Nat), q < S.length → (nd S q).u = true → ∀ W, NdsAt W a S → Calls Try.prog 17 #[.agg #[.slice a S.length c], .int .i64 (q : Int)] W fun e w' => e = .returned (.bool true) ∧ Below W.heap.size W w') := fun q hq hu W hW => by
    have h := used_all a c S (q : Int) W hW
    have e : usedB S (q : Int) = true := by unfold usedB; rw [isPl_nat.2 hq, Int.toNat_natCast, hu]; rfl
    rw [e] at h
    exact h
  have CT : Hid (∀ (q : Nat) sa sc (x : Int) W, q < S.length → x ∈ pathF S q → IntsAt W sa (pathF S q) → Calls Try.prog 18 #[.slice sa (pathF S q).length sc, .int .i64 x] W fun e w' => e = .returned (.bool true) ∧ w' = W) := fun q sa sc x W hq hx hI => by
    have h := contains_any sa sc (pathF S q) x W (by have := line_len S S.length (rightUnder (nd S q)); unfold pathF; simp; omega) hI
    rw [decide_eq_true hx] at h
    exact h
  have DS : Hid (∀ W, NdsAt W a S → Calls _ _ _ _ _) := fun W hW => slots_ok a c S k u W wf hW hk hE
  have DG : Hid (∀ (q : Nat), q < S.length → findE S q (nd S q).n = 0 → ∀ W, NdsAt W a S → Calls _ _ _ _ _) := fun q hq hf W hW => given_ok a c S q (nd S q).n W wf hW hq hf
  have FH : Hid (∀ i, i < (flatF S k).length → ∃ q : Nat, (flatF S k).getD i 0 = q ∧ q < S.length ∧ (nd S q).u = true ∧ lastHost S k (pathF S k) ∈ pathF S q) := fun i hi => by
    obtain ⟨q, e, hq, hu, hh⟩ := flat_host wf hk (x := (flatF S k).getD i 0) (by rw [getD_elem _ _ hi]; exact List.getElem_mem hi)
    exact ⟨q, e, hq, hu.elim (fun e => by rw [e]; exact hku) id, hh⟩
  have FN : Hid (flatF S k).Nodup := flat_nodup wf hk
  have F0 : Hid (∃ r, flatF S k = (k : Int) :: r) := flat_head S k
  have FL : (flatF S k).length ≤ 24 := by have := flatF_le wf hk; omega
  have LF : Hid (∀ j, j < (slotsF S k).length → ∀ x ∈ (slt (slotsF S k) j).gv, ∃ q : Nat, x = q ∧ q < S.length ∧ (nd S q).p = k ∧ toF S q = (slt (slotsF S k) j).pl ∧ findE S q (nd S q).n = 0) := fun j hj x hx => by
    obtain ⟨q, e, h1, _, h3, h4, h5⟩ := given_facts wf hk hj hx
    exact ⟨q, e, h1, h3, h4, h5⟩
  have LN : Hid ((slotsF S k).flatMap Slt.gv).Nodup := given_nodup wf hk
  have LL : (slotsF S k).length ≤ 24 := slotsF_few wf k
  have LG : Hid (∀ j, j < (slotsF S k).length → (slt (slotsF S k) j).gv.length ≤ 24) := fun j hj => by
    have hm : slt (slotsF S k) j ∈ slotsF S k := by rw [slt_elem hj]; exact List.getElem_mem hj
    obtain ⟨_, _, _, _, _, _, _, _, _, _, _, r6, _⟩ := slotsF_mem wf hm
    rcases r6 with e2 | e2
    · rw [e2]; simp
    · rw [e2]
      have h1 := wf.kids_small hk
      unfold markedF flt
      exact Nat.le_trans (List.length_filter_le _ _) h1
  have PL : Hid (∀ i, i < (pathF S k).length → ∃ q : Nat, (pathF S k).getD i 0 = q ∧ q < S.length) := fun i hi => by
    have hm : (pathF S k).getD i 0 ∈ pathF S k := by rw [getD_elem _ _ hi]; exact List.getElem_mem hi
    obtain ⟨q, e, hq, _⟩ := wf.path_used hk hku hm
    exact ⟨q, e, hq⟩
  have PS : (pathF S k).length ≤ 25 := by have := line_len S S.length (rightUnder (nd S k)); unfold pathF; simp; omega
  have HS : Hid (NdsAt w a S) := hS
  clear hS hE wf hku
  obtain ⟨P, hP⟩ : ∃ P, pathF S k = P := ⟨_, rfl⟩
  have HP : Hid (pathF S k = P) := hP
  rw [hP] at PL PS FH
  generalize flatF S k = F at *
  generalize slotsF S k = L at *
  obtain ⟨fl, hfl⟩ : ∃ z, F.length = z := ⟨_, rfl⟩
  have HFL : Hid (F.length = fl) := hfl
  rw [hfl] at D FL FH
  obtain ⟨n, hn⟩ : ∃ n, S.length = n := ⟨_, rfl⟩
  have HN : Hid (S.length = n) := hn
  rw [hn] at hN hk D DL DU CT DS DG FH LF PL ⊢
  obtain ⟨m, hm⟩ : ∃ z, P.length = z := ⟨_, rfl⟩
  have HM : Hid (P.length = m) := hm
  rw [hm] at PL PS
  have DK : Hid (∀ W, NdsAt W a S → Calls Try.prog 16 #[.agg #[.slice a n c], .int .i64 (k : Int)] W fun e w' => ∃ sa sc, e = .returned (.slice sa m sc) ∧ Below W.heap.size W w' ∧ IntsAt w' sa P) := fun W hW => by
    have h := DL.out k hk W hW
    rw [hP, hm] at h
    exact h
  clear hfl hP hn hm
  go_enter Try.func4, Try.ntmps4
  go_wp2_with fail
  refine Calls.mono (D.out _ (HS.out.below (two_belowS _ _ _))) ?_
  rintro e w1 ⟨fa, fc, rfl, hb, hI⟩
  have l0 := keepC (alloc_cell1 w #[.slice a n c] 24 0 (.cells #[.int .i64 (k : Int), .int .i64 u] 26) rfl) hb
  have l1 := keepC (alloc_cell2 w #[.int .i64 (k : Int), .int .i64 u] 26 0 (.cells #[.slice a n c] 24) rfl) hb
  have l2 := keepC (alloc_cell2 w #[.int .i64 (k : Int), .int .i64 u] 26 1 (.cells #[.slice a n c] 24) rfl) hb
  have HB : Hid (Below w.heap.size w w1) := (two_belowS w _ _).trans (hb.mono (by simp; omega))
  have HF1 : Hid (IntsAt w1 fa F) := hI
  clear hb hI D
  go_wp2_with fail
  refine Calls.mono (DP.out _) ?_
  rintro e w2 ⟨rfl, hb⟩
  have HB2 : Hid (Below w.heap.size w w2) := HB.out.trans (hb.mono HB.out.size)
  have HF2 : Hid (IntsAt w2 fa F) := HF1.out.below hb
  have m0 := keepC l0 hb
  have m1 := keepC l1 hb
  have m2 := keepC l2 hb
  clear hb l0 l1 l2 DP HF1
  go_wp2_with fail
  refine Calls.mono (DK.out _ (HS.out.below HB2.out)) ?_
  rintro e w3 ⟨pa, pc, rfl, hb, hI⟩
  have HB3 : Hid (Below w.heap.size w w3) := HB2.out.trans (hb.mono HB2.out.size)
  have HF3 : Hid (IntsAt w3 fa F) := HF2.out.below hb
  have HP3 : Hid (IntsAt w3 pa P) := hI
  have l0 := keepC m0 hb
  have l1 := keepC m1 hb
  have l2 := keepC m2 hb
  clear hb m0 m1 m2 hI DK HF2
  go_wp2_with fail
  go_loopg [7, 41] m (fun g s7 s41 wr => ∃ i : Nat, i ≤ m ∧ m - i ≤ g ∧ s41 = .int .i64 i ∧ s7 = .int .i64 (lastHost S k (P.take i)) ∧ wr = w3)
  case atStart => exact ⟨0, by omega, by omega, rfl, rfl, rfl⟩
  case round =>
    obtain ⟨i, hi, hg, rfl, rfl, hw⟩ := hrel
    have hw2 := hw.symm
    clear hw
    subst hw2
    by_cases hlt : i < m
    · have hlt2 : (i : Int) < (m : Int) := by omega
      obtain ⟨y, hy, hyn⟩ := PL.out i hlt
      obtain ⟨pb, po, ep, hpc⟩ := HP3.out i (by rw [HM.out]; exact hlt)
      subst ep
      rw [hy] at hpc
      obtain ⟨nb, no, ea, _, _, _, _, _, _, c6, _⟩ := (HS.out.below HB3.out) y (by rw [HN.out]; exact hyn)
      subst ea
      have hy2 : (y : Int) < (n : Int) := by omega
      have NX : Hid (lastHost S k (P.take (i + 1)) = if 0 ≤ (nd S y).h then (nd S y).h else lastHost S k (P.take i)) := lastHost_take (by rw [HM.out]; exact hlt) hy
      clear hy
      generalize lastHost S k (P.take i) = A at *
      generalize (nd S y).h = hh at *
      by_cases h0 : 0 ≤ hh
      · have hd : decide ((0 : Int) ≤ hh) = true := decide_eq_true h0
        have NX2 : Hid (lastHost S k (P.take (i + 1)) = hh) := by show _ = _; rw [NX.out, if_pos h0]
        clear NX
        go_wp2_with fail
        go_roundg (m - (i + 1))
        case measure => omega
        case rel => exact ⟨i + 1, by omega, by omega, by go_num, by rw [NX2.out], rfl⟩
      · have hd : decide ((0 : Int) ≤ hh) = false := decide_eq_false h0
        have NX2 : Hid (lastHost S k (P.take (i + 1)) = A) := by show _ = _; rw [NX.out, if_neg h0]
        clear NX
        go_wp2_with fail
        go_roundg (m - (i + 1))
        case measure => omega
        case rel => exact ⟨i + 1, by omega, by omega, by go_num, by rw [NX2.out], rfl⟩
    · have hie : i = m := by omega
      subst hie
      have e0 : P.take i = P := List.take_of_length_le (by rw [HM.out]; omega)
      rw [e0]
      clear e0
      generalize lastHost S k P = HO at *
      have hmm := @run_makeMap Try.prog
      have HB3' : Hid (Below w3.heap.size w3 (w3.alloc (.map #[] 0))) := one_belowS _ _
      have MK0 : Hid (MarksAt (w3.alloc (.map #[] 0)) w3.heap.size 0 (fun x => decide (x ∈ F.take 0))) := (MarksAt.made w3).congr (fun x => by simp)
      go_wp2_with fail
      go_loopg [62] fl (fun g s62 wr => ∃ i : Nat, i ≤ fl ∧ fl - i ≤ g ∧ s62 = .int .i64 i ∧ Hid (Below w3.heap.size w3 wr) ∧ Hid (MarksAt wr w3.heap.size i (fun x => decide (x ∈ F.take i))))
      case atStart => exact ⟨0, by omega, by omega, rfl, HB3', MK0⟩
      case round =>
        obtain ⟨i, hi, hg, rfl, HBr, MK⟩ := hrel
        clear HB3' MK0
        have HBW : Hid (Below w.heap.size w wr) := HB3.out.trans (HBr.out.mono HB3.out.size)
        have m0 := keepC l0 HBr.out
        have m1 := keepC l1 HBr.out
        have m2 := keepC l2 HBr.out
        have q0 := World.block_lt_of_cell? _ _ m0
        have q1 := World.block_lt_of_cell? _ _ m1
        have q3 := MK.out.lt
        clear l0 l1 l2
        by_cases hlt : i < fl
        · have hlt2 : (i : Int) < (fl : Int) := by omega
          obtain ⟨y, hy, hyn, hyu, hyh⟩ := FH.out i hlt
          obtain ⟨pb, po, ep, hpc⟩ := (HF3.out.below HBr.out) i (by rw [HFL.out]; exact hlt)
          subst ep
          rw [hy] at hpc
          have hiF : i < F.length := by rw [HFL.out]; exact hlt
          have hno := nodup_take_not FN.out hiF hy
          have ST : Hid (∀ j : Int, (if j = (y : Int) then true else decide (j ∈ F.take i)) = decide (j ∈ F.take (i + 1))) := fun j => (mem_take_step hiF hy j).symm
          have hwf := wf_place (q := y) (by omega)
          have hlook := MK.out.look (t := 48) Try.underlying48 (k := (y : Int)) hwf
          rw [decide_eq_false hno] at hlook
          have HY : Hid (HO ∈ pathF S y) := hyh
          have DUy : Hid _ := DU.out y hyn hyu
          have DLy : Hid _ := DL.out y hyn
          have CTy : Hid _ := fun sa sc W => CT.out y sa sc HO W hyn hyh
          clear hy hno hyh hyu hiF
          obtain ⟨Y, hY⟩ : ∃ Y, pathF S y = Y := ⟨_, rfl⟩
          rw [hY] at DLy CTy
          obtain ⟨yl, hyl⟩ : ∃ z, Y.length = z := ⟨_, rfl⟩
          rw [hyl] at DLy CTy
          clear hY hyl HY
          go_wp2_with fail
          refine Calls.mono (DUy.out _ (HS.out.below HBW.out)) ?_
          rintro e w4 ⟨rfl, hb⟩
          have HB4 : Hid (Below w3.heap.size w3 w4) := HBr.out.trans (hb.mono HBr.out.size)
          have MK4 : Hid (MarksAt w4 w3.heap.size i (fun x => decide (x ∈ F.take i))) := MK.out.kept (hb.block _ q3)
          have n0 := keepC m0 hb
          have n1 := keepC m1 hb
          have hs4 := hb.size
          clear hb m0 m1 m2 MK hlook hpc
          go_wp2_with fail
          refine Calls.mono (DLy.out _ (HS.out.below (HB3.out.trans (HB4.out.mono HB3.out.size)))) ?_
          rintro e w5 ⟨ya, yc, rfl, hb, hIy⟩
          have HB5 : Hid (Below w3.heap.size w3 w5) := HB4.out.trans (hb.mono HB4.out.size)
          have MK5 : Hid (MarksAt w5 w3.heap.size i (fun x => decide (x ∈ F.take i))) := MK4.out.kept (hb.block _ (by omega))
          have HIy : Hid _ := hIy
          have hs5 := hb.size
          clear hb hIy n0 n1 MK4
          go_wp2_with fail
          refine Calls.mono (CTy.out ya yc _ HIy.out) ?_
          rintro e w6 ⟨rfl, hw6⟩
          have h2 := hw6.symm
          clear hw6
          subst h2
          obtain ⟨w7, hput, mk7, gr7⟩ := MK5.out.put (t := 48) Try.underlying48 (by unfold maxLen; omega) (k := (y : Int)) hwf true
          have MK7 : Hid (MarksAt w7 w3.heap.size (i + 1) (fun x => decide (x ∈ F.take (i + 1)))) := mk7.congr ST.out
          have HB7 : Hid (Below w3.heap.size w3 w7) := HB5.out.grown gr7 HB5.out.size (fun k hk => by cases hk; exact Nat.le_refl _)
          clear mk7 gr7 MK5
          go_wp2_with fail
          go_roundg (fl - (i + 1))
          case measure => omega
          case rel => exact ⟨i + 1, by omega, by omega, by go_num, HB7, MK7⟩
        · have hie : fl = i := by omega
          subst hie
          clear MK
          go_wp2_with fail
          refine Calls.mono (DS.out _ (HS.out.below HBW.out)) ?_
          rintro e w5 ⟨v, K, rfl, hb, hO⟩
          obtain ⟨qa, qc, hv, hsl⟩ := OwnS.slts hO
          subst hv
          have HB5 : Hid (Below w.heap.size w w5) := HBW.out.trans (hb.mono HBW.out.size)
          have HF5 : Hid (IntsAt w5 fa F) := (HF3.out.below HBr.out).below hb
          have HSL : Hid (SltsAt w5 qa L) := hsl
          have l0 := keepC m0 hb
          have l1 := keepC m1 hb
          clear hb hO hsl m0 m1 m2 q0 q1 q3 HBW HBr HF3 HB3 HB2 HP3
          have HB5' : Hid (Below w5.heap.size w5 (w5.alloc (.map #[] 0))) := one_belowS _ _
          have MK0 : Hid (MarksAt (w5.alloc (.map #[] 0)) w5.heap.size (24 * 0) (fun x => decide (x ∈ (L.take 0).flatMap Slt.gv))) := (MarksAt.made w5).congr (fun x => by simp)
          obtain ⟨ll, hll⟩ : ∃ z, L.length = z := ⟨_, rfl⟩
          have HLL : Hid (L.length = ll) := hll
          rw [hll] at LL LF LG ⊢
          clear hll
          go_wp2_with fail
          go_loopg [95] ll (fun g s95 wr => ∃ j : Nat, j ≤ ll ∧ ll - j ≤ g ∧ s95 = .int .i64 j ∧ Hid (Below w5.heap.size w5 wr) ∧ Hid (MarksAt wr w5.heap.size (24 * j) (fun x => decide (x ∈ (L.take j).flatMap Slt.gv))))
          case atStart => exact ⟨0, by omega, by omega, rfl, HB5', MK0⟩
          case round =>
            obtain ⟨j, hj, hg, rfl, HBr, MK⟩ := hrel
            clear HB5' MK0
            have q3 := MK.out.lt
            by_cases hlt : j < ll
            · have hlt2 : (j : Int) < (ll : Int) := by omega
              obtain ⟨b, o, ea, f0', f1', ga, gc, f2', hin⟩ := HSL.out j (by rw [HLL.out]; exact hlt)
              subst ea
              have f0 := keepC f0' HBr.out
              have f1 := keepC f1' HBr.out
              have f2 := keepC f2' HBr.out
              clear f0' f1' f2'
              have hjL : j < L.length := by rw [HLL.out]; exact hlt
              have gl24 := LG.out j hlt
              have LFj : Hid _ := LF.out j hlt
              have NOT : Hid (∀ i, i < (slt L j).gv.length → ∀ x, (slt L j).gv.getD i 0 = x → x ∉ (L.take j).flatMap Slt.gv ++ (slt L j).gv.take i) := fun i hi x hx => flat_take_not LN.out hjL hi hx
              have ALL : Hid ((L.take j).flatMap Slt.gv ++ (slt L j).gv = (L.take (j + 1)).flatMap Slt.gv) := flat_take_all hjL
              have HIB : Hid (0 < (slt L j).gv.length → ∀ b o s, ga = some ⟨b, o, s⟩ → b < w5.heap.size) := fun h0 b o s e => by
                obtain ⟨b', o', e', hc'⟩ := hin 0 h0
                rw [e'] at e
                cases e
                exact World.block_lt_of_cell? _ _ hc'
              have HIN : Hid (IntsAt wr ga (slt L j).gv) := hin.below HBr.out
              clear hin hjL
              generalize slt L j = x at *
              obtain ⟨spl, snum, sgv⟩ := x
              dsimp only at f0 f1 f2 LFj NOT ALL HIN HIB gl24
              obtain ⟨gl, hgl⟩ : ∃ z, sgv.length = z := ⟨_, rfl⟩
              have HGL : Hid (sgv.length = gl) := hgl
              rw [hgl] at f2 NOT gl24
              have MKi : Hid (∀ o1 : Obj, MarksAt (wr.alloc o1) w5.heap.size (24 * j + 0) (fun x => decide (x ∈ (L.take j).flatMap Slt.gv ++ sgv.take 0))) := fun o1 => (MK.out.kept ((one_belowS wr o1).block _ q3)).congr (fun x => by simp)
              generalize (L.take j).flatMap Slt.gv = A at *
              clear hgl MK
              obtain ⟨V, rfl⟩ : ∃ V, V = wr := ⟨_, rfl⟩
              have vsz : V.heap.size < (V.alloc (.cells #[.int .i64 spl, .int .i64 snum, .slice ga gl gc] 41)).heap.size := by simp
              go_wp2_with fail
              go_loopg [102] gl (fun g s102 wr => ∃ i : Nat, i ≤ gl ∧ gl - i ≤ g ∧ s102 = .int .i64 i ∧ Hid (Below w5.heap.size w5 wr) ∧ wr.cell? ⟨V.heap.size, 0, none⟩ = some (.int .i64 spl) ∧ Hid (IntsAt wr ga sgv) ∧ Hid (MarksAt wr w5.heap.size (24 * j + i) (fun x => decide (x ∈ A ++ sgv.take i))))
              case atStart => exact ⟨0, by omega, by omega, rfl, HBr.out.trans ((one_belowS _ _).mono HBr.out.size), alloc_cell V _ _ 0 rfl, HIN.out.below (one_belowS _ _), MKi.out _⟩
              case round =>
                obtain ⟨i, hi, hg2, rfl, HBi, cx, HIi, MK⟩ := hrel
                clear MKi f0 f1 f2 HIN vsz
                have q4 := MK.out.lt
                have HBW : Hid (Below w.heap.size w wr) := HB5.out.trans (HBi.out.mono HB5.out.size)
                have n0 := keepC l0 HBi.out
                have n1 := keepC l1 HBi.out
                have hV := HBr.out.size
                by_cases hlt3 : i < gl
                · have hlt4 : (i : Int) < (gl : Int) := by omega
                  obtain ⟨rb, ro, er, hrc⟩ := HIi.out i (by rw [HGL.out]; exact hlt3)
                  subst er
                  obtain ⟨q, eq, hq, hqp, hqt, hqf⟩ := LFj.out (sgv.getD i 0) (by rw [getD_elem _ _ (by rw [HGL.out]; exact hlt3)]; exact List.getElem_mem _)
                  have hno := NOT.out i hlt3 (q : Int) eq
                  have ST : Hid (∀ y : Int, (if y = (q : Int) then true else decide (y ∈ A ++ sgv.take i)) = decide (y ∈ A ++ sgv.take (i + 1))) := fun y => flat_take_step (by rw [HGL.out]; exact hlt3) eq y
                  rw [eq] at hrc
                  have hwf := wf_place (q := q) (by omega)
                  obtain ⟨nb, no, ea, _, c1, _, _, c4, _⟩ := (HS.out.below HBW.out) q (by rw [HN.out]; exact hq)
                  subst ea
                  rw [hqp] at c4
                  have hq2 : (q : Int) < (n : Int) := by omega
                  have dg := DG.out q hq hqf
                  rw [hqt] at dg
                  have DGq : Hid _ := dg
                  clear eq hqp hqt hqf dg
                  generalize (nd S q).n = U at *
                  have z0 := World.block_lt_of_cell? _ _ n0
                  have z1 := World.block_lt_of_cell? _ _ n1
                  have z2 := World.block_lt_of_cell? _ _ c1
                  have z3 := World.block_lt_of_cell? _ _ cx
                  have z4 := World.block_lt_of_cell? _ _ hrc
                  go_wp2_with fail
                  go_region_held3 (fun w'' => w''.cell? ⟨w.heap.size, 0, none⟩ = some (.slice (some ⟨nb, no, none⟩) n c) ∧ w''.cell? ⟨nb, no + q * 8 + 1, none⟩ = some (.int .i64 U)) (go_keep) (first | (go_at_call 7; refine (Calls.mono (DGq.out _ ?nd) ?_); (case nd => exact HS.out.below HBW.out.drew); rintro e w7 ⟨rfl, hb⟩; have HB7 : Hid (Below w5.heap.size w5 w7) := HBi.out.drew.trans (hb.mono HBi.out.size); have p0 : w7.cell? ⟨w.heap.size, 0, none⟩ = some (.slice (some ⟨nb, no, none⟩) n c) := (hb.cell (by exact z0)).trans n0; have p1 : w7.cell? ⟨nb, no + q * 8 + 1, none⟩ = some (.int .i64 U) := (hb.cell (by exact z2)).trans c1; have p2 : w7.cell? ⟨nb, no + q * 8 + 4, none⟩ = some (.int .i64 (k : Int)) := (hb.cell (by exact z2)).trans c4; have p3 : w7.cell? ⟨w.heap.size + 1, 0, none⟩ = some (.int .i64 (k : Int)) := (hb.cell (by exact z1)).trans n1; have p4 : w7.cell? ⟨V.heap.size, 0, none⟩ = some (.int .i64 spl) := (hb.cell (by exact z3)).trans cx; have MK7 : Hid (MarksAt w7 w5.heap.size (24 * j + i) (fun x => decide (x ∈ A ++ sgv.take i))) := MK.out.kept (hb.block _ (by exact q4)); have HI7 : Hid (IntsAt w7 (some ⟨rb, ro, none⟩) sgv) := (show IntsAt wr.drew (some ⟨rb, ro, none⟩) sgv from HIi.out).below hb; have y0 : w.heap.size < w7.heap.size := Nat.lt_of_lt_of_le z0 hb.size; have y1 : nb < w7.heap.size := Nat.lt_of_lt_of_le z2 hb.size; clear hb))
                  have hlook : ∀ nn, (Instr.lookup 48 (.map (some w5.heap.size)) (.int .i64 (q : Int)) false).run Try.prog (w7.drewN nn) = .ok (.bool false) (w7.drewN nn) := fun nn => by
                    have h := (MK7.out.kept (w' := w7.drewN nn) rfl).look (t := 48) Try.underlying48 (k := (q : Int)) hwf
                    rwa [decide_eq_false hno] at h
                  go_wp2_with fail
                  go_big_quiet (fail)
                  obtain ⟨w8, hput, mk8, gr8⟩ := (MK7.out.kept (w' := w7.drewN nq) rfl).put (t := 48) Try.underlying48 (by unfold maxLen; omega) (k := (q : Int)) hwf true
                  have MK8 : Hid (MarksAt w8 w5.heap.size (24 * j + (i + 1)) (fun x => decide (x ∈ A ++ sgv.take (i + 1)))) := mk8.congr ST.out
                  have HB8 : Hid (Below w5.heap.size w5 w8) := (Below.drewNs HB7.out nq).grown gr8 HB7.out.size (fun k hk => by cases hk; exact Nat.le_refl _)
                  have cx8 : w8.cell? ⟨V.heap.size, 0, none⟩ = some (.int .i64 spl) := gr8.cell (a := ⟨V.heap.size, 0, none⟩) p4 (by intro e; have e2 : V.heap.size = w5.heap.size := Option.some.inj e; omega)
                  have HI8 : Hid (IntsAt w8 (some ⟨rb, ro, none⟩) sgv) := fun j' hj' => by
                    obtain ⟨b', o', e', hc'⟩ := HI7.out j' hj'
                    refine ⟨b', o', e', gr8.cell (a := ⟨b', o' + j', none⟩) hc' ?_⟩
                    intro e2
                    have e3 : b' = w5.heap.size := Option.some.inj e2
                    have e4 := HIB.out (by rw [HGL.out]; omega) b' o' none e'
                    omega
                  clear mk8 gr8 MK7 HI7 p4
                  go_wp2_with fail
                  go_roundg (gl - (i + 1))
                  case measure => omega
                  case rel => exact ⟨i + 1, by omega, by omega, by go_num, HB8, cx8, HI8, MK8⟩
                · have hie : i = gl := by omega
                  subst hie
                  have MKx : Hid (MarksAt wr w5.heap.size (24 * (j + 1)) (fun x => decide (x ∈ (L.take (j + 1)).flatMap Slt.gv))) := by
                    have h1 := MK.out
                    rw [List.take_of_length_le (by rw [HGL.out]; omega), ALL.out] at h1
                    exact h1.mono (by omega)
                  clear MK
                  go_wp2_with fail
                  go_roundg (ll - (j + 1))
                  case measure => omega
                  case rel => exact ⟨j + 1, by omega, by omega, by go_num, HBi, MKx⟩
            · have hie : j = ll := by omega
              subst hie
              clear MK
              obtain ⟨r, hr⟩ := F0.out
              have hf0 : F.getD 0 0 = (k : Int) := by rw [hr]; rfl
              have hfl : 0 < fl := by rw [← HFL.out, hr]; simp
              obtain ⟨pb, po, ep, hpc⟩ := (HF5.out.below HBr.out) 0 (by rw [HFL.out]; exact hfl)
              subst ep
              rw [hf0, Nat.add_zero] at hpc
              have n1 := keepC l1 HBr.out
              have HBW : Hid (Below w.heap.size w wr) := HB5.out.trans (HBr.out.mono HB5.out.size)
              have hfl2 : (0 : Int) < (fl : Int) := by omega
              clear hr hf0
              go_wp2_with fail
              go_big_quiet (fail)
              go_wp2_with fail
              go_ret
              exact ⟨rfl, Below.drewNs HBW.out _⟩

theorem slotOnce_any (a : Option Addr) (c : Nat) (S : List Nd) (p u : Int) (w : World) (hN : S.length ≤ 9223372036854775807) (hB : Big S) (hS : NdsAt w a S) :
    Calls Try.prog 4 #[.agg #[.slice a S.length c], .agg #[.int .i64 p, .int .i64 u]] w fun e w' => e = .returned (.bool true) ∧ Below w.heap.size w w' := by
  by_cases hE : findE S p u = 0
  · obtain ⟨wf, k, rfl, hk, _⟩ := tcheck_one ((tcheck_is_findT S p u).trans hE)
    exact slotOnce_ok a c S k u w wf hS hk hE
  · exact slotOnce_err a c S p u _ w hN hB hS rfl hE
end Go.Proofs.Ytlgnapdhnlhkpaa
