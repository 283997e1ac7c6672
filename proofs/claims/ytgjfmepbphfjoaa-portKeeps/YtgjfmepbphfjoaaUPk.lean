/-
  What is asked of port's functions; the closed fact.
-/
import Derived.Test.YtgjfmepbphfjoaaUPe
namespace Go.Proofs.Ytgjfmepbphfjoaa
open Go.RowKit Go.ChangeShapes Go.WideShapes
set_option linter.unusedVariables false

/-- A slice as a call hands it on. -/
def SlA (a : Option Addr) (n c : Nat) : Prop := (a = none → c = 0) ∧ n ≤ c ∧ c ≤ 9223372036854775807
def OpenAns : Prop := ∀ (a : Option Addr) (c : Nat) (L : List Pt) (Fr o t : Int) (w : World), L.length ≤ 9223372036854775807 → BigP L → SlA a L.length c → PtsAt w a L →
  Calls Try.prog 5 #[.slice a L.length c, .int .i64 Fr, .int .i64 o, .int .i64 t] w fun e w' => ∃ va vc, e = .returned (.tuple #[.slice va (resO L Fr o t).length vc, .int .i64 (openN L Fr o t), .int .i64 (openE L Fr o t)]) ∧ Below w.heap.size w w' ∧ SlA va (resO L Fr o t).length vc ∧ PtsAt w' va (resO L Fr o t)
def PassAns : Prop := ∀ (a : Option Addr) (c : Nat) (L : List Pt) (Fr k o t to' th : Int) (w : World), L.length ≤ 9223372036854775807 → BigP L → SlA a L.length c → PtsAt w a L →
  Calls Try.prog 6 #[.slice a L.length c, .int .i64 Fr, .int .i64 k, .int .i64 o, .int .i64 t, .int .i64 to', .int .i64 th] w fun e w' => ∃ va vc, e = .returned (.tuple #[.slice va (resPass L Fr k o t to' th).length vc, .int .i64 (passE L Fr k o t to' th)]) ∧ Below w.heap.size w w' ∧ SlA va (resPass L Fr k o t to' th).length vc ∧ PtsAt w' va (resPass L Fr k o t to' th)
def PushAns : Prop := ∀ (a : Option Addr) (c : Nat) (L : List Pt) (Fr k o t : Int) (ga : Option Addr) (gc : Nat) (G : List Cl) (w : World), L.length ≤ 9223372036854775807 → BigP L → SlA a L.length c → PtsAt w a L → G.length ≤ 9223372036854775807 → BigC G → ClsAt w ga G →
  Calls Try.prog 7 #[.slice a L.length c, .int .i64 Fr, .int .i64 k, .int .i64 o, .int .i64 t, .agg #[.slice ga G.length gc]] w fun e w' => ∃ va vc, e = .returned (.tuple #[.slice va (resPush L Fr k o t G).length vc, .int .i64 (pushE L Fr k o t G)]) ∧ Below w.heap.size w w' ∧ SlA va (resPush L Fr k o t G).length vc ∧ PtsAt w' va (resPush L Fr k o t G)
def PullAns : Prop := ∀ (a : Option Addr) (c : Nat) (L : List Pt) (Fr k o t : Int) (w : World), L.length ≤ 9223372036854775807 → BigP L → SlA a L.length c → PtsAt w a L →
  Calls Try.prog 8 #[.slice a L.length c, .int .i64 Fr, .int .i64 k, .int .i64 o, .int .i64 t] w fun e w' => ∃ va vc ga gc, e = .returned (.tuple #[.slice va (resPull L Fr k o t).length vc, .agg #[.slice ga (pullG L Fr k o t).length gc], .int .i64 (pullE L Fr k o t)]) ∧ Below w.heap.size w w' ∧ SlA va (resPull L Fr k o t).length vc ∧ PtsAt w' va (resPull L Fr k o t) ∧ ClsAt w' ga (pullG L Fr k o t)
def ShutAns : Prop := ∀ (a : Option Addr) (c : Nat) (L : List Pt) (Fr k o t : Int) (w : World), L.length ≤ 9223372036854775807 → BigP L → SlA a L.length c → PtsAt w a L →
  Calls Try.prog 9 #[.slice a L.length c, .int .i64 Fr, .int .i64 k, .int .i64 o, .int .i64 t] w fun e w' => ∃ va vc, e = .returned (.tuple #[.slice va (resShut L Fr k o t).length vc, .int .i64 (heldPE L Fr k o t)]) ∧ Below w.heap.size w w' ∧ SlA va (resShut L Fr k o t).length vc ∧ PtsAt w' va (resShut L Fr k o t)
def PCheckAns : Prop := ∀ (a : Option Addr) (c : Nat) (L : List Pt) (Fr : Int) (w : World), L.length ≤ 9223372036854775807 → BigP L → SlA a L.length c → PtsAt w a L →
  Calls Try.prog 16 #[.slice a L.length c, .int .i64 Fr] w fun e w' => e = .returned (.int .i64 (pcheckE L Fr)) ∧ Below w.heap.size w w'
def PSameAns : Prop := ∀ (a a' : Option Addr) (c c' : Nat) (S S' : List Pt) (w : World), S.length ≤ 9223372036854775807 → BigP S → PtsAt w a S → PtsAt w a' S' →
  Calls Try.prog 18 #[.slice a S.length c, .slice a' S'.length c'] w fun e w' => ∃ r : Bool, e = .returned (.bool r) ∧ Below w.heap.size w w' ∧ (r = true ↔ S = S')

/-- Graphs that are right, and few. -/
def GoodC (C : List (List Cl)) : Prop := C.length ≤ 17 ∧ ∀ j, j < C.length → Right (gr C j)
def GoodP (L : List Pt) : Prop := L.length ≤ 100 ∧ ∀ i, i < L.length → GoodC (pt L i).cm
theorem good_nil : GoodC [] := ⟨by simp, fun j hj => absurd hj (Nat.not_lt_zero _)⟩
theorem goodP_nil : GoodP [] := ⟨by simp, fun j hj => absurd hj (Nat.not_lt_zero _)⟩
theorem good_right {L : List Pt} {F : Int} (R : RightP L F) : GoodP L := ⟨by have := R.few; omega, fun i hi => by
  obtain ⟨_, _, _, _, h5, h6⟩ := portE_zero.1 (R.ok i hi)
  exact ⟨by omega, graphs_zero.1 h6⟩⟩
theorem GoodP.big {L : List Pt} (h : GoodP L) : BigP L := fun i hi => by
  obtain ⟨h1, h2⟩ := h.2 i hi
  exact ⟨by omega, fun j hj => ⟨by have := (h2 j hj).few; omega, (h2 j hj).big⟩⟩
theorem GoodP.set {L : List Pt} (h : GoodP L) {k : Nat} {x : Pt} (hx : GoodC x.cm) : GoodP (L.set k x) := ⟨by rw [List.length_set]; exact h.1, fun i hi => by
  rw [List.length_set] at hi
  rw [pt_set hi]
  split
  · exact hx
  · exact h.2 i hi⟩
theorem good_open {L : List Pt} {Fr : Int} (R : RightP L Fr) (o t : Int) : GoodP (openL L o t) := by
  have h := good_right R
  have hf := R.few
  have el : (openL L o t).length = L.length + 2 := by unfold openL; rw [List.length_append]; rfl
  refine ⟨by omega, fun i hi => ?_⟩
  rw [el] at hi
  by_cases e : i < L.length
  · unfold openL
    rw [pt_left e]
    exact h.2 i e
  · have hc : (pt (openL L o t) i).cm = [] := by
      rw [pt_elem (by rw [el]; exact hi)]
      unfold openL
      rw [List.getElem_append_right (by omega)]
      have : i - L.length = 0 ∨ i - L.length = 1 := by omega
      rcases this with h0 | h0
      · simp [h0]
      · simp [h0]
    rw [hc]
    exact good_nil
theorem good_resO (L : List Pt) (Fr o t : Int) : GoodP (resO L Fr o t) := by
  unfold resO
  by_cases h : openE L Fr o t = 0
  · rw [if_pos h]
    have h1 : pcheckE L Fr = 0 := by
      unfold openE at h
      by_cases h1 : pcheckE L Fr = 0
      · exact h1
      · rw [if_pos h1] at h; exact absurd h h1
    exact good_open (pcheck_zero.1 h1) o t
  · rw [if_neg h]
    exact goodP_nil
theorem then_zero {H E : Int} (h : thenE H E = 0) : H = 0 ∧ E = 0 := by
  unfold thenE at h
  by_cases h1 : H = 0
  · rw [if_neg (not_not_intro h1)] at h
    exact ⟨h1, h⟩
  · rw [if_pos h1] at h
    exact absurd h h1
theorem good_resPass (L : List Pt) (Fr k o t to' th : Int) : GoodP (resPass L Fr k o t to' th) := by
  unfold resPass
  by_cases h : passE L Fr k o t to' th = 0
  · rw [if_pos h]
    have h1 : heldPE L Fr k o t = 0 := by
      unfold passE at h
      by_cases h1 : heldPE L Fr k o t = 0
      · exact h1
      · rw [if_pos h1] at h; exact absurd h h1
    obtain ⟨R, q, rfl, hq, _⟩ := heldP_zero h1
    have g := good_right R
    unfold passL
    rw [Int.toNat_natCast]
    exact g.set (g.2 q hq)
  · rw [if_neg h]
    exact goodP_nil
theorem good_resShut (L : List Pt) (Fr k o t : Int) : GoodP (resShut L Fr k o t) := by
  unfold resShut
  by_cases h : heldPE L Fr k o t = 0
  · rw [if_pos h]
    obtain ⟨R, q, rfl, hq, _⟩ := heldP_zero h
    exact (good_right R).set good_nil
  · rw [if_neg h]
    exact goodP_nil
theorem good_resPull (L : List Pt) (Fr k o t : Int) : GoodP (resPull L Fr k o t) ∧ Right (pullG L Fr k o t) := by
  unfold resPull pullG
  by_cases h : pullE L Fr k o t = 0
  · rw [if_pos h, if_pos h]
    have h1 : heldPE L Fr k o t = 0 := by
      unfold pullE at h
      by_cases h1 : heldPE L Fr k o t = 0
      · exact h1
      · rw [if_pos h1] at h; exact absurd h h1
    obtain ⟨R, q, rfl, hq, _⟩ := heldP_zero h1
    unfold pullE at h
    rw [if_neg (not_not_intro h1), Int.toNat_natCast] at h
    have h2 : (pt L q).cm.length ≠ 0 := fun e => by rw [if_pos e] at h; cases h
    have g := good_right R
    have gq := g.2 q hq
    unfold pullL
    rw [Int.toNat_natCast]
    refine ⟨g.set ⟨by simp; have := gq.1; omega, fun j hj => ?_⟩, gq.2 0 (by omega)⟩
    have hj2 : j + 1 < (pt L q).cm.length := by simp at hj; omega
    dsimp only
    rw [gr_drop _ hj2]
    exact gq.2 (j + 1) hj2
  · rw [if_neg h, if_neg h]
    exact ⟨goodP_nil, ⟨by simp, (fun i hi => absurd hi (Nat.not_lt_zero _)), (fun i hi => absurd hi (Nat.not_lt_zero _)), (fun i hi => absurd hi (Nat.not_lt_zero _))⟩⟩
theorem good_resPush (L : List Pt) (Fr k o t : Int) (G : List Cl) : GoodP (resPush L Fr k o t G) := by
  unfold resPush
  by_cases h : pushE L Fr k o t G = 0
  · rw [if_pos h]
    unfold pushE at h
    have h1 : heldPE L Fr k o t = 0 := by
      by_cases h1 : heldPE L Fr k o t = 0
      · exact h1
      · rw [if_pos h1] at h; exact absurd h h1
    rw [if_neg (not_not_intro h1)] at h
    have h2 : gcheckE G = 0 := by
      by_cases h2 : gcheckE G = 0
      · exact h2
      · rw [if_pos h2] at h; exact absurd h h2
    obtain ⟨R, q, rfl, hq, _⟩ := heldP_zero h1
    obtain ⟨m, hm, hmn, _, _⟩ := R.mate hq
    have g := good_right R
    have gm := g.2 m hmn
    have hcm := (portE_zero.1 (R.ok m hmn)).2.2.2.2.1.1
    unfold pushL mateP
    rw [Int.toNat_natCast, hm, Int.toNat_natCast]
    refine g.set ⟨by simp; omega, fun j hj => ?_⟩
    dsimp only at hj ⊢
    rw [List.length_append, List.length_singleton] at hj
    by_cases e : j < (pt L m).cm.length
    · rw [gr_left e]
      exact gm.2 j e
    · have e2 : j = (pt L m).cm.length := by omega
      rw [e2, gr_last]
      exact (gcheck_zero.1 h2).copy
  · rw [if_neg h]
    exact goodP_nil
theorem goodP_len {L : List Pt} (h : GoodP L) : L.length ≤ 9223372036854775807 := by have := h.1; omega

def Q1 : List Pt := [⟨1, 0, 1, [], false⟩, ⟨1, 0, 0, [], false⟩]
def QG : List Cl := [⟨5, []⟩, ⟨6, []⟩]
def Q2 : List Pt := [⟨1, 0, 1, [], false⟩, ⟨1, 0, 0, [[⟨5, []⟩]], false⟩]
def Q3 : List Pt := [⟨1, 0, 1, [], false⟩, ⟨0, 7, 0, [[⟨5, []⟩]], false⟩]
theorem q_open : openE [] 2 1 0 = 0 := by decide +kernel
theorem q_openN : openN [] 2 1 0 = 0 := by decide +kernel
theorem q_res1 : resO [] 2 1 0 = Q1 := by decide +kernel
theorem q_push : pushE Q1 2 0 1 0 QG = 0 := by decide +kernel
theorem q_res2 : resPush Q1 2 0 1 0 QG = Q2 := by decide +kernel
theorem q_pass : passE Q2 2 1 1 0 0 7 = 0 := by decide +kernel
theorem q_res3 : resPass Q2 2 1 1 0 0 7 = Q3 := by decide +kernel
theorem q_pull1 : pullE Q3 2 1 1 0 = 7 := by decide +kernel
theorem q_pull2 : pullE Q3 2 1 0 7 = 0 := by decide +kernel
theorem q_pullG : pullG Q3 2 1 0 7 = [⟨5, []⟩] := by decide +kernel
theorem q_pullG1 : pullG Q3 2 1 1 0 = [] := by decide +kernel
theorem q_good1 : GoodP Q1 := by rw [← q_res1]; exact good_resO _ _ _ _
theorem q_good2 : GoodP Q2 := by rw [← q_res2]; exact good_resPush _ _ _ _ _ _
theorem q_good3 : GoodP Q3 := by rw [← q_res3]; exact good_resPass _ _ _ _ _ _ _
theorem qg_at {w : World} {d : Nat} (h0 : w.cell? ⟨d, 0, none⟩ = some (.int .i64 5)) (h1 : w.cell? ⟨d, 1, none⟩ = some (.slice none 0 0)) (h2 : w.cell? ⟨d, 2, none⟩ = some (.int .i64 6)) (h3 : w.cell? ⟨d, 3, none⟩ = some (.slice none 0 0)) : ClsAt w (some ⟨d, 0, none⟩) QG := fun i hi => by
  match i, hi with
  | 0, _ => exact ⟨d, 0, rfl, h0, none, 0, h1, fun j hj => absurd hj (Nat.not_lt_zero _)⟩
  | 1, _ => exact ⟨d, 0, rfl, h2, none, 0, h3, fun j hj => absurd hj (Nat.not_lt_zero _)⟩
theorem q5_at {w : World} {d : Nat} (h0 : w.cell? ⟨d, 0, none⟩ = some (.int .i64 5)) (h1 : w.cell? ⟨d, 1, none⟩ = some (.slice none 0 0)) : ClsAt w (some ⟨d, 0, none⟩) [⟨5, []⟩] := fun i hi => by
  match i, hi with
  | 0, _ => exact ⟨d, 0, rfl, h0, none, 0, h1, fun j hj => absurd hj (Nat.not_lt_zero _)⟩
theorem qg_big : BigC QG := fun i hi => by
  match i, hi with
  | 0, _ => decide
  | 1, _ => decide
theorem q5_big : BigC [⟨5, []⟩] := fun i hi => by
  match i, hi with
  | 0, _ => decide

def PairedOk : Prop := ∀ w : World, Calls Try.prog 15 #[] w fun e w' => e = .returned (.bool true) ∧ Below w.heap.size w w'

set_option maxRecDepth 100000 in
set_option maxHeartbeats 4000000 in
theorem paired_ok (hO : OpenAns) (hP : PassAns) (hU : PushAns) (hL : PullAns) : PairedOk := by
  intro w
  have D1 : Hid (∀ W, Calls Try.prog 5 #[.slice none 0 0, .int .i64 2, .int .i64 1, .int .i64 0] W fun e w' => ∃ va vc, e = .returned (.tuple #[.slice va 2 vc, .int .i64 0, .int .i64 0]) ∧ Below W.heap.size W w' ∧ SlA va 2 vc ∧ PtsAt w' va Q1) := fun W => by
    refine (hO none 0 [] 2 1 0 W (by simp) goodP_nil.big ⟨fun _ => rfl, by simp, by omega⟩ (pts_none _)).mono ?_
    rintro e w' ⟨va, vc, rfl, hb, hs, hp⟩
    rw [q_res1] at hs hp
    exact ⟨va, vc, by rw [q_res1, q_openN, q_open]; rfl, hb, hs, hp⟩
  have D2 : Hid (∀ va vc d W, SlA va 2 vc → PtsAt W va Q1 → ClsAt W (some ⟨d, 0, none⟩) QG → Calls Try.prog 7 #[.slice va 2 vc, .int .i64 2, .int .i64 0, .int .i64 1, .int .i64 0, .agg #[.slice (some ⟨d, 0, none⟩) 2 2]] W fun e w' => ∃ va vc, e = .returned (.tuple #[.slice va 2 vc, .int .i64 0]) ∧ Below W.heap.size W w' ∧ SlA va 2 vc ∧ PtsAt w' va Q2) := fun va vc d W h1 h2 h3 => by
    refine (hU va vc Q1 2 0 1 0 (some ⟨d, 0, none⟩) 2 QG W (by decide) q_good1.big h1 h2 (by decide) qg_big h3).mono ?_
    rintro e w' ⟨va, vc, rfl, hb, hs, hp⟩
    rw [q_res2] at hs hp
    exact ⟨va, vc, by rw [q_res2, q_push]; rfl, hb, hs, hp⟩
  have D3 : Hid (∀ va vc W, SlA va 2 vc → PtsAt W va Q2 → Calls Try.prog 6 #[.slice va 2 vc, .int .i64 2, .int .i64 1, .int .i64 1, .int .i64 0, .int .i64 0, .int .i64 7] W fun e w' => ∃ va vc, e = .returned (.tuple #[.slice va 2 vc, .int .i64 0]) ∧ Below W.heap.size W w' ∧ SlA va 2 vc ∧ PtsAt w' va Q3) := fun va vc W h1 h2 => by
    refine (hP va vc Q2 2 1 1 0 0 7 W (by decide) q_good2.big h1 h2).mono ?_
    rintro e w' ⟨va, vc, rfl, hb, hs, hp⟩
    rw [q_res3] at hs hp
    exact ⟨va, vc, by rw [q_res3, q_pass]; rfl, hb, hs, hp⟩
  have D4 : Hid (∀ va vc W, SlA va 2 vc → PtsAt W va Q3 → Calls Try.prog 8 #[.slice va 2 vc, .int .i64 2, .int .i64 1, .int .i64 1, .int .i64 0] W fun e w' => ∃ va vc vl ga gc, e = .returned (.tuple #[.slice va vl vc, .agg #[.slice ga 0 gc], .int .i64 7]) ∧ Below W.heap.size W w') := fun va vc W h1 h2 => by
    refine (hL va vc Q3 2 1 1 0 W (by decide) q_good3.big h1 h2).mono ?_
    rintro e w' ⟨va, vc, ga, gc, rfl, hb, hs, hp, hc⟩
    exact ⟨va, vc, _, ga, gc, by rw [q_pullG1, q_pull1]; rfl, hb⟩
  have D5 : Hid (∀ va vc W, SlA va 2 vc → PtsAt W va Q3 → Calls Try.prog 8 #[.slice va 2 vc, .int .i64 2, .int .i64 1, .int .i64 0, .int .i64 7] W fun e w' => ∃ va vc vl ga gc, e = .returned (.tuple #[.slice va vl vc, .agg #[.slice ga 1 gc], .int .i64 0]) ∧ Below W.heap.size W w' ∧ ClsAt w' ga [⟨5, []⟩]) := fun va vc W h1 h2 => by
    refine (hL va vc Q3 2 1 0 7 W (by decide) q_good3.big h1 h2).mono ?_
    rintro e w' ⟨va, vc, ga, gc, rfl, hb, hs, hp, hc⟩
    rw [q_pullG] at hc
    exact ⟨va, vc, _, ga, gc, by rw [q_pullG, q_pull2]; rfl, hb, hc⟩
  have D6 : Hid (∀ ga gc d W, ClsAt W ga [⟨5, []⟩] → ClsAt W (some ⟨d, 0, none⟩) [⟨5, []⟩] → Calls Try.prog 36 #[.agg #[.slice ga 1 gc], .agg #[.slice (some ⟨d, 0, none⟩) 1 1]] W fun e w' => e = .returned (.bool true) ∧ Below W.heap.size W w') := fun ga gc d W h1 h2 => by
    refine (gsame_any ga (some ⟨d, 0, none⟩) gc 1 [⟨5, []⟩] [⟨5, []⟩] W (by decide) q5_big h1 h2).mono ?_
    rintro e w' ⟨r, rfl, hb, hr⟩
    exact ⟨by rw [hr.2 rfl], hb⟩
  clear hO hP hU hL
  go_enter Try.func15, Try.ntmps15
  go_wp2_with fail
  refine Calls.mono (D1.out _) ?_
  rintro e w1 ⟨va, vc, rfl, hb, hs, hp⟩
  have HB1 : Hid (Below w.heap.size w w1) := hb
  have HS1 : Hid (SlA va 2 vc) := hs
  have HP1 : Hid (PtsAt w1 va Q1) := hp
  clear hb hs hp D1
  go_wp2_with fail
  refine Calls.mono (D2.out va vc _ _ HS1.out (HP1.out.below (one_belowS _ _)) (qg_at (by go_simp) (by go_simp) (by go_simp) (by go_simp))) ?_
  rintro e w2 ⟨va2, vc2, rfl, hb, hs, hp⟩
  have HB2 : Hid (Below w.heap.size w w2) := HB1.out.trans (((one_belowS w1 _).trans (hb.mono (by simp))).mono HB1.out.size)
  have HS2 : Hid (SlA va2 2 vc2) := hs
  have HP2 : Hid (PtsAt w2 va2 Q2) := hp
  clear hb hs hp D2 HP1 HS1
  go_wp2_with fail
  refine Calls.mono (D3.out va2 vc2 _ HS2.out HP2.out) ?_
  rintro e w3 ⟨va3, vc3, rfl, hb, hs, hp⟩
  have HB3 : Hid (Below w.heap.size w w3) := HB2.out.trans (hb.mono HB2.out.size)
  have HS3 : Hid (SlA va3 2 vc3) := hs
  have HP3 : Hid (PtsAt w3 va3 Q3) := hp
  clear hb hs hp D3 HP2 HS2
  go_wp2_with fail
  refine Calls.mono (D4.out va3 vc3 _ HS3.out HP3.out) ?_
  rintro e w4 ⟨va4, vc4, vl4, ga4, gc4, rfl, hb⟩
  have HB4 : Hid (Below w.heap.size w w4) := HB3.out.trans (hb.mono HB3.out.size)
  have HP4 : Hid (∀ o1 : Obj, PtsAt (w4.alloc o1) va3 Q3) := fun o1 => (HP3.out.below hb).below (one_belowS _ _)
  clear hb D4 HP3
  go_wp2_with fail
  refine Calls.mono (D5.out va3 vc3 _ HS3.out (HP4.out _)) ?_
  rintro e w5 ⟨va5, vc5, vl5, ga5, gc5, rfl, hb, hc⟩
  have HB5 : Hid (Below w.heap.size w w5) := HB4.out.trans (((one_belowS w4 _).trans (hb.mono (by simp))).mono HB4.out.size)
  have HC5 : Hid (∀ o1 o2 : Obj, ClsAt ((w5.alloc o1).alloc o2) ga5 [⟨5, []⟩]) := fun o1 o2 => hc.below (two_belowS _ _ _)
  clear hb hc D5 HP4
  go_wp2_with fail
  refine Calls.mono (D6.out ga5 gc5 _ _ (HC5.out _ _) (q5_at (by go_simp) (by go_simp))) ?_
  rintro e w6 ⟨rfl, hb⟩
  have HB6 : Hid (Below w.heap.size w w6) := HB5.out.trans (((two_belowS w5 _ _).trans (hb.mono (by simp; omega))).mono HB5.out.size)
  clear hb D6
  go_wp2_with fail
  go_ret
  exact ⟨rfl, HB6.out⟩
end Go.Proofs.Ytgjfmepbphfjoaa
