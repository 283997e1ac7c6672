/-
  Ports in new memory: what becomes of them when one is changed.
-/
import Derived.Test.YtgjfmepbphfjoaaUPwb
import Derived.Test.YtgjfmepbphfjoaaUPwd
namespace Go.Proofs.Ytgjfmepbphfjoaa
open Go.RowKit Go.ChangeShapes Go.WideShapes
set_option linter.unusedVariables false

theorem few_right {L : List Pt} {Fr : Int} (R : RightP L Fr) : FewP L := fun i hi => by
  obtain ⟨_, _, _, _, h5, h6⟩ := portE_zero.1 (R.ok i hi)
  have hg := graphs_zero.1 h6
  exact ⟨by omega, fun j hj => ⟨by have := (hg j hj).few; omega, fun m hm => by have := (hg j hj).kids8 m hm; omega⟩⟩
theorem pts_fin {B0 B : Nat} (h0 : B0 ≤ B) {w : World} {v : Value} {M : List Pt} {K : Nat → Value} (row : w.ownsRow B 47 5 v M.length (pcells M K)) (hg : ∀ i, i < M.length → St (fun x => x < B0) (fun w => GrsV w (K i) (pt M i).cm) w) :
    ∃ a c, v = .slice a M.length c ∧ SlA a M.length c ∧ St (fun x => x < B0) (fun w => PtsAt w a M) w := by
  have hall : ∀ w', OffX (fun x => x < B0) w w' → ∃ a c, v = .slice a M.length c ∧ PtsAt w' a M := fun w' ho =>
    pts_own (owns_block row (fun j hj => ho.block j (row.lt j hj).2 (by show ¬ j < B0; have := (row.lt j hj).1; omega))) (fun i hi => hg i hi w' ho)
  obtain ⟨a, c, e, _⟩ := hall w (OffX.refl _ w)
  refine ⟨a, c, e, ?_, fun w' ho => ?_⟩
  · rcases row.2 with ⟨e2, hn⟩ | ⟨g, cap, cur, e2, _, _, h1, h2, _⟩
    · rw [e] at e2
      simp only [Value.slice.injEq] at e2
      obtain ⟨rfl, _, rfl⟩ := e2
      exact ⟨fun _ => rfl, by omega, by omega⟩
    · rw [e] at e2
      cases e2
      exact ⟨(fun h => by cases h), h1, by unfold maxLen at h2; omega⟩
  · obtain ⟨a', c', e', hp⟩ := hall w' ho
    rw [e] at e'
    cases e'
    exact hp
theorem CpI.grs {B B0 : Nat} {L : List Pt} {K : Nat → Value} {lo hi : Nat → Nat} {w w2 : World} {Y : Nat → Prop} (h : CpI B L K lo hi L.length w) (h0 : B0 ≤ B) (hF : FewP L) (o : OffX Y w w2) {i : Nat} (hi' : i < L.length) (hY : ∀ b, Y b → b < lo i ∨ hi i ≤ b) : St (fun x => x < B0) (fun w => GrsV w (K i) (pt L i).cm) w2 := fun w' ho =>
  (((h.gs i hi').off o hY).off ho (fun b hb => Or.inl (by have : b < B0 := hb; have := (h.at' i hi').1; omega))).grs (hF i hi').1
/-- Port q is changed. -/
theorem CpI.put {B B0 : Nat} {L : List Pt} {K K' : Nat → Value} {lo hi : Nat → Nat} {w w2 : World} {Y : Nat → Prop} {q : Nat} {x : Pt} (h : CpI B L K lo hi L.length w) (h0 : B0 ≤ B) (hF : FewP L) (hq : q < L.length)
    (row : w2.ownsRow B 47 5 (.slice (some ⟨B, 0, none⟩) L.length L.length) L.length (pcells (L.set q x) K')) (hK : ∀ i, i ≠ q → K' i = K i) (o : OffX Y w w2) (hY : ∀ b, Y b → b ≤ B ∨ (lo q ≤ b ∧ b < hi q)) (hx : St (fun x => x < B0) (fun w => GrsV w (K' q) x.cm) w2) :
    SlA (some ⟨B, 0, none⟩) L.length L.length ∧ St (fun x => x < B0) (fun w => PtsAt w (some ⟨B, 0, none⟩) (L.set q x)) w2 := by
  have el : (L.set q x).length = L.length := List.length_set
  have row' : w2.ownsRow B 47 5 (.slice (some ⟨B, 0, none⟩) L.length L.length) (L.set q x).length (pcells (L.set q x) K') := by rw [el]; exact row
  obtain ⟨a, c, e, hs, hp⟩ := pts_fin h0 row' (fun i hi' => by
    rw [el] at hi'
    by_cases e : i = q
    · subst e
      rw [set_lone hi']
      exact hx
    · rw [pt_set hi', if_neg (fun e2 => e e2.symm), hK i e]
      refine h.grs h0 hF o hi' (fun b hb => ?_)
      have h1 := (h.at' i hi').1
      rcases hY b hb with h2 | h2
      · exact Or.inl (by omega)
      · rcases h.ap i q hi' hq e with h3 | h3
        · exact Or.inr (by omega)
        · exact Or.inl (by omega))
  rw [el] at e hs
  cases e
  exact ⟨hs, hp⟩
theorem CpI.cell {B : Nat} {L : List Pt} {K : Nat → Value} {lo hi : Nat → Nat} {w : World} (h : CpI B L K lo hi L.length w) {k f : Nat} (hk : k < L.length) (hf : f < 5) : w.cell? ⟨B, k * 5 + f, none⟩ = (pcell (pt L k) (K k))[f]? := row_cells h.row rfl hk hf

/-- The walks' end: ports that stay, whatever becomes of X. -/
theorem pts_less {X : Nat → Prop} {B0 : Nat} {w : World} {a : Option Addr} {M : List Pt} (hX : ∀ b, X b → b < B0) (h : St (fun x => x < B0) (fun w => PtsAt w a M) w) : PtsSt X w a M := h.less hX
theorem pts_nilS (X : Nat → Prop) (w : World) : PtsSt X w none [] := fun w' _ => pts_none w'
theorem sl_nil : SlA none ([] : List Pt).length 0 := ⟨fun _ => rfl, Nat.le_refl _, by omega⟩

set_option maxRecDepth 100000 in
set_option maxHeartbeats 2000000 in
theorem shut_ansX : ShutAnsX := fun X a c L Fr k o t w hX hN hB hsl hL => by
  have DH : Hid _ := checkHeld_anyPwd a c L Fr k o t w hN hB hsl hL.at
  unfold resShut
  by_cases hH : heldPE L Fr k o t = 0
  · rw [if_pos hH, hH]
    rw [hH] at DH
    obtain ⟨R, q, rfl, hq, _⟩ := heldP_zero hH
    have hN12 := R.few
    have hF := few_right R
    have DP : Hid (∀ W, Below w.heap.size w W → _) := fun W hW => cports_any a c L W hN12 hF (hL.at.below hW)
    have FIN : Hid (∀ (B : Nat) (W1 : World) (K : Nat → Value) (lo hi : Nat → Nat), w.heap.size ≤ B → CpI B L K lo hi L.length W1 → SlA (some ⟨B, 0, none⟩) L.length L.length ∧ PtsSt X ((W1.setCell ⟨B, q * 5 + 4, none⟩ (.bool true)).setCell ⟨B, q * 5 + 3, none⟩ (.slice none 0 0)) (some ⟨B, 0, none⟩) (shutL L q)) := fun B W1 K lo hi hBw h => by
      have a1 := row_put h.row (k := q) (f := 4) (u := .bool true) (v := K q) (x := { pt L q with s := true }) hq (by omega) rfl
      have a2 := row_put a1 (k := q) (f := 3) (u := .slice none 0 0) (v := .slice none 0 0) (x := { pt L q with s := true, cm := [] }) (by simpa using hq) (by omega) (by rw [set_lone hq]; simp only [if_true]; rfl)
      rw [List.set_set] at a2
      have h1 := h.put (Y := fun b => b = B) hBw hF hq a2 (fun i hi => by simp only [if_neg hi]) ((OffX.set (X := fun b => b = B) _ _ rfl).trans (OffX.set (X := fun b => b = B) _ _ rfl)) (fun b hb => Or.inl (by have : b = B := hb; omega)) (fun w' _ => by simp only [if_true]; exact GrsV.nil w')
      unfold shutL
      rw [Int.toNat_natCast]
      exact ⟨h1.1, pts_less hX h1.2⟩
    have OC : Hid (∀ (B : Nat) (W1 : World) (K : Nat → Value) (lo hi : Nat → Nat), CpI B L K lo hi L.length W1 → W1.cell? ⟨B, q * 5 + 3, none⟩ = some (K q) ∧ W1.cell? ⟨B, q * 5 + 4, none⟩ = some (.bool (pt L q).s) ∧ ∀ o, W1.frozen? ⟨B, o, none⟩ = false) := fun B W1 K lo hi h => ⟨h.cell hq (show 3 < 5 by omega), h.cell hq (show 4 < 5 by omega), fun o => h.row.frozenAt o⟩
    have ML : Hid ((shutL L q).length = L.length) := by show _ = _; unfold shutL; simp
    have hq2 : (q : Int) < (L.length : Int) := by omega
    clear hL hB hsl hF R hH hN
    generalize (pt L q).s = xs at *
    generalize shutL L q = M at *
    obtain ⟨n, hn⟩ : ∃ z, L.length = z := ⟨_, rfl⟩
    rw [hn] at hq hq2 hN12 DH DP FIN OC ML
    rw [hn]
    clear hn
    go_enter Try.func9, Try.ntmps9
    go_wp2_with fail
    refine Calls.mono DH.out ?_
    rintro e w1 ⟨rfl, hb1⟩
    have HB1 : Hid (Below w.heap.size w w1) := hb1
    clear hb1 DH
    go_wp2_with fail
    refine Calls.mono (DP.out _ HB1.out) ?_
    rintro e w2 ⟨K, lo, hi, rfl, hb2, hc⟩
    obtain ⟨x3, x4, fz⟩ := OC.out _ _ _ _ _ hc
    have s2 : w1.heap.size < w2.heap.size := World.block_lt_of_cell? _ _ x3
    have FF : Hid _ := FIN.out _ _ _ _ _ HB1.out.size hc
    have HB2 : Hid (Below w.heap.size w ((w2.setCell ⟨w1.heap.size, q * 5 + 4, none⟩ (.bool true)).setCell ⟨w1.heap.size, q * 5 + 3, none⟩ (.slice none 0 0))) := ((HB1.out.trans (hb2.mono HB1.out.size)).setCell (show w.heap.size ≤ w1.heap.size from HB1.out.size) _).setCell (show w.heap.size ≤ w1.heap.size from HB1.out.size) _
    clear hb2 hc DP FIN OC
    generalize K q = kq at *
    go_wp2_with fail
    exact bodyPost_ret (v := .tuple #[.slice (some ⟨w1.heap.size, 0, none⟩) n n, .int .i64 0]) (by simp [results, Try.results9, go_sem]) rfl (by first | exact ⟨_, n, by rw [ML.out], HB2.out, (by rw [ML.out]; exact FF.out.1), FF.out.2⟩ | exact ⟨_, ⟨n, by rw [ML.out]⟩, HB2.out, (by rw [ML.out]; exact FF.out.1), FF.out.2⟩)
  · rw [if_neg hH]
    have y1 : decide (heldPE L Fr k o t = 0) = false := decide_eq_false hH
    have y2 : (heldPE L Fr k o t == 0) = false := by simp [hH]
    clear hL hB hsl
    generalize heldPE L Fr k o t = E at *
    generalize L.length = n at *
    go_enter Try.func9, Try.ntmps9
    go_wp2_with fail
    refine Calls.mono DH.out ?_
    rintro e w1 ⟨rfl, hb⟩
    have HB1 : Hid (Below w.heap.size w w1) := hb
    clear hb DH
    go_wp2_with fail
    exact bodyPost_ret (v := .tuple #[.slice none 0 0, .int .i64 E]) (by simp [results, Try.results9, go_sem]) rfl ⟨none, 0, rfl, HB1.out, sl_nil, pts_nilS X _⟩

set_option maxRecDepth 100000 in
set_option maxHeartbeats 2000000 in
theorem pass_ansX : PassAnsX := fun X a c L Fr k o t to' th w hX hN hB hsl hL => by
  have DH : Hid _ := checkHeld_anyPwd a c L Fr k o t w hN hB hsl hL.at
  have DO : Hid (∀ W, _) := fun W => checkOwner_any Fr to' th W
  unfold resPass
  rw [pass_then]
  by_cases hH : heldPE L Fr k o t = 0
  · have eT : thenE (heldPE L Fr k o t) (passE2 Fr to' th) = passE2 Fr to' th := by unfold thenE; rw [hH]; simp
    rw [eT]
    rw [hH] at DH
    obtain ⟨R, q, rfl, hq, _⟩ := heldP_zero hH
    have hN12 := R.few
    have hF := few_right R
    by_cases hE : passE2 Fr to' th = 0
    · rw [if_pos hE, hE]
      rw [hE] at DO
      have DP : Hid (∀ W, Below w.heap.size w W → _) := fun W hW => cports_any a c L W hN12 hF (hL.at.below hW)
      have FIN : Hid (∀ (B : Nat) (W1 : World) (K : Nat → Value) (lo hi : Nat → Nat), w.heap.size ≤ B → CpI B L K lo hi L.length W1 → SlA (some ⟨B, 0, none⟩) L.length L.length ∧ PtsSt X ((W1.setCell ⟨B, q * 5, none⟩ (.int .i64 to')).setCell ⟨B, q * 5 + 1, none⟩ (.int .i64 th)) (some ⟨B, 0, none⟩) (passL L q to' th)) := fun B W1 K lo hi hBw h => by
        have a1 := row_put h.row (k := q) (f := 0) (u := .int .i64 to') (v := K q) (x := { pt L q with o := to' }) hq (by omega) rfl
        have a2 := row_put a1 (k := q) (f := 1) (u := .int .i64 th) (v := K q) (x := { pt L q with o := to', t := th }) (by simpa using hq) (by omega) (by rw [set_lone hq]; simp only [if_true]; rfl)
        rw [List.set_set] at a2
        have oo : OffX (fun b => b = B) W1 ((W1.setCell ⟨B, q * 5, none⟩ (.int .i64 to')).setCell ⟨B, q * 5 + 1, none⟩ (.int .i64 th)) := (OffX.set (X := fun b => b = B) _ _ rfl).trans (OffX.set (X := fun b => b = B) _ _ rfl)
        have h1 := h.put (Y := fun b => b = B) hBw hF hq a2 (fun i hi => by simp only [if_neg hi]) oo (fun b hb => Or.inl (by have : b = B := hb; omega)) (by simp only [if_true]; exact h.grs hBw hF oo hq (fun b hb => Or.inl (by have : b = B := hb; have := (h.at' q hq).1; omega)))
        unfold passL
        rw [Int.toNat_natCast]
        exact ⟨h1.1, pts_less hX h1.2⟩
      have OC : Hid (∀ (B : Nat) (W1 : World) (K : Nat → Value) (lo hi : Nat → Nat), CpI B L K lo hi L.length W1 → W1.cell? ⟨B, q * 5, none⟩ = some (.int .i64 (pt L q).o) ∧ W1.cell? ⟨B, q * 5 + 1, none⟩ = some (.int .i64 (pt L q).t) ∧ ∀ o, W1.frozen? ⟨B, o, none⟩ = false) := fun B W1 K lo hi h => ⟨h.cell hq (show 0 < 5 by omega), h.cell hq (show 1 < 5 by omega), fun o => h.row.frozenAt o⟩
      have ML : Hid ((passL L q to' th).length = L.length) := by show _ = _; unfold passL; simp
      have hq2 : (q : Int) < (L.length : Int) := by omega
      clear hL hB hsl hF R hH hN eT hE
      generalize (pt L q).o = xo at *
      generalize (pt L q).t = xt at *
      generalize passL L q to' th = M at *
      obtain ⟨n, hn⟩ : ∃ z, L.length = z := ⟨_, rfl⟩
      rw [hn] at hq hq2 hN12 DH DP FIN OC ML
      rw [hn]
      clear hn
      go_enter Try.func6, Try.ntmps6
      go_wp2_with fail
      refine Calls.mono DH.out ?_
      rintro e w1 ⟨rfl, hb1⟩
      have HB1 : Hid (Below w.heap.size w w1) := hb1
      clear hb1 DH
      go_wp2_with fail
      refine Calls.mono (DO.out _) ?_
      rintro e w2 ⟨rfl, hw2⟩
      have hw3 := hw2.symm
      clear hw2
      subst hw3
      go_wp2_with fail
      refine Calls.mono (DP.out _ HB1.out) ?_
      rintro e w2 ⟨K, lo, hi, rfl, hb2, hc⟩
      obtain ⟨x3, x4, fz⟩ := OC.out _ _ _ _ _ hc
      have s2 : w1.heap.size < w2.heap.size := World.block_lt_of_cell? _ _ x3
      have FF : Hid _ := FIN.out _ _ _ _ _ HB1.out.size hc
      have HB2 : Hid (Below w.heap.size w ((w2.setCell ⟨w1.heap.size, q * 5, none⟩ (.int .i64 to')).setCell ⟨w1.heap.size, q * 5 + 1, none⟩ (.int .i64 th))) := ((HB1.out.trans (hb2.mono HB1.out.size)).setCell (show w.heap.size ≤ w1.heap.size from HB1.out.size) _).setCell (show w.heap.size ≤ w1.heap.size from HB1.out.size) _
      clear hb2 hc DP FIN OC
      go_wp2_with fail
      exact bodyPost_ret (v := .tuple #[.slice (some ⟨w1.heap.size, 0, none⟩) n n, .int .i64 0]) (by simp [results, Try.results6, go_sem]) rfl (by first | exact ⟨_, n, by rw [ML.out], HB2.out, (by rw [ML.out]; exact FF.out.1), FF.out.2⟩ | exact ⟨_, ⟨n, by rw [ML.out]⟩, HB2.out, (by rw [ML.out]; exact FF.out.1), FF.out.2⟩)
    · rw [if_neg hE]
      have y1 : decide (passE2 Fr to' th = 0) = false := decide_eq_false hE
      have y2 : (passE2 Fr to' th == 0) = false := by simp [hE]
      clear hL hB hsl hF R hH eT
      generalize passE2 Fr to' th = E at *
      generalize L.length = n at *
      go_enter Try.func6, Try.ntmps6
      go_wp2_with fail
      refine Calls.mono DH.out ?_
      rintro e w1 ⟨rfl, hb⟩
      have HB1 : Hid (Below w.heap.size w w1) := hb
      clear hb DH
      go_wp2_with fail
      refine Calls.mono (DO.out _) ?_
      rintro e w2 ⟨rfl, hw2⟩
      have hw3 := hw2.symm
      clear hw2
      subst hw3
      go_wp2_with fail
      exact bodyPost_ret (v := .tuple #[.slice none 0 0, .int .i64 E]) (by simp [results, Try.results6, go_sem]) rfl ⟨none, 0, rfl, HB1.out, sl_nil, pts_nilS X _⟩
  · have eT : thenE (heldPE L Fr k o t) (passE2 Fr to' th) = heldPE L Fr k o t := by unfold thenE; rw [if_pos hH]
    rw [eT, if_neg hH]
    have y1 : decide (heldPE L Fr k o t = 0) = false := decide_eq_false hH
    have y2 : (heldPE L Fr k o t == 0) = false := by simp [hH]
    clear hL hB hsl DO eT
    generalize heldPE L Fr k o t = E at *
    generalize L.length = n at *
    go_enter Try.func6, Try.ntmps6
    go_wp2_with fail
    refine Calls.mono DH.out ?_
    rintro e w1 ⟨rfl, hb⟩
    have HB1 : Hid (Below w.heap.size w w1) := hb
    clear hb DH
    go_wp2_with fail
    exact bodyPost_ret (v := .tuple #[.slice none 0 0, .int .i64 E]) (by simp [results, Try.results6, go_sem]) rfl ⟨none, 0, rfl, HB1.out, sl_nil, pts_nilS X _⟩
end Go.Proofs.Ytgjfmepbphfjoaa
