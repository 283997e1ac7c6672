/-
  PortKeeps at whatever arguments: what is asked of each call.
-/
import Derived.Test.YtgjfmepbphfjoaaUPq
import Derived.BigQuiet
namespace Go.Proofs.Ytgjfmepbphfjoaa
open Go.RowKit Go.ChangeShapes Go.WideShapes
set_option linter.unusedVariables false

theorem tmod_bdP (k : Int) (n : Nat) (hn : 0 < n) : -(n : Int) < k.tmod n ∧ k.tmod n < n := by
  have h1 := Int.tmod_lt_of_pos k (b := (n : Int)) (by omega)
  have h2 := Int.tmod_lt_of_pos (-k) (b := (n : Int)) (by omega)
  rw [Int.neg_tmod] at h2
  omega
set_option maxHeartbeats 400000 in
theorem at_inP (k : Int) (n : Nat) (hn : 0 < n) (hn' : n ≤ 1000) : ∃ p : Nat, p < n ∧ ∀ w : World,
    Calls Try.prog 21 #[.int .i64 k, .int .i64 n] w fun e w' => e = .returned (.int .i64 (p : Int)) ∧ w' = w := by
  obtain ⟨hb1, hb2⟩ := tmod_bdP k n hn
  generalize hr : k.tmod (n : Int) = r at hb1 hb2
  by_cases h : r < 0
  · obtain ⟨p, hp⟩ : ∃ p : Nat, (p : Int) = r + n := ⟨(r + n).toNat, by omega⟩
    refine ⟨p, by omega, fun w => ?_⟩
    have HP : Hid ((p : Int) = r + n) := hp
    clear hp
    go_enter Try.func21, Try.ntmps21
    go_wp2
    go_ret
    exact ⟨by rw [HP.out]; rfl, rfl⟩
  · obtain ⟨p, hp⟩ : ∃ p : Nat, (p : Int) = r := ⟨r.toNat, by omega⟩
    refine ⟨p, by omega, fun w => ?_⟩
    have HP : Hid ((p : Int) = r) := hp
    clear hp
    go_enter Try.func21, Try.ntmps21
    go_wp2
    go_ret
    exact ⟨by rw [HP.out]; rfl, rfl⟩
theorem at_two (k : Int) (w : World) : Calls Try.prog 21 #[.int .i64 k, .int .i64 2] w fun e w' => ∃ p : Int, (p = 0 ∨ p = 1) ∧ e = .returned (.int .i64 p) ∧ w' = w := by
  obtain ⟨p, hp, h⟩ := at_inP k 2 (by decide) (by decide)
  refine (h w).mono ?_
  rintro e w' ⟨rfl, rfl⟩
  exact ⟨p, by omega, rfl, rfl⟩
theorem at_four (k : Int) (w : World) : Calls Try.prog 21 #[.int .i64 k, .int .i64 4] w fun e w' => ∃ p : Int, (p = 0 ∨ p = 1 ∨ p = 2 ∨ p = 3) ∧ e = .returned (.int .i64 p) ∧ w' = w := by
  obtain ⟨p, hp, h⟩ := at_inP k 4 (by decide) (by decide)
  refine (h w).mono ?_
  rintro e w' ⟨rfl, rfl⟩
  exact ⟨p, by omega, rfl, rfl⟩

theorem two_good {o : Nat → Int} {C : Nat → List (List Cl)} (h : TwoOk o C) : GoodP (two o C) := good_right (two_right h)
theorem kOpen (hO : OpenAnsX) (W : World) : Calls Try.prog 5 #[.slice none 0 0, .int .i64 3, .int .i64 0, .int .i64 0] W fun e w' => ∃ va vc, e = .returned (.tuple #[.slice va 2 vc, .int .i64 0, .int .i64 0]) ∧ Below W.heap.size W w' ∧ SlA va 2 vc ∧ PtsAt w' va (two (fun _ => 0) (fun _ => [])) := by
  have e0 : openE [] 3 0 0 = 0 := by decide
  have e1 : resO [] 3 0 0 = two (fun _ => 0) (fun _ => []) := by decide
  have e2 : openN [] 3 0 0 = 0 := by decide
  have h := hO (fun _ => False) none 0 [] 3 0 0 W (fun b hb => absurd hb id) (by simp) goodP_nil.big ⟨fun _ => rfl, by simp, by omega⟩ (pts_st0 (pts_none _))
  rw [e0, e1, e2, two_len] at h
  refine h.mono ?_
  rintro e w' ⟨va, vc, rfl, hb, hs, hp⟩
  exact ⟨va, vc, rfl, hb, hs, hp.at⟩
theorem kShut (hS : ShutAnsX) (X : Nat → Prop) (va : Option Addr) (vc : Nat) (o : Nat → Int) (C : Nat → List (List Cl)) (s : Nat) (x : Int) (W : World) (h : TwoOk o C) (hs : s < 2) (hx : o s ≠ x) (hsl : SlA va 2 vc) (hp : PtsSt X W va (two o C)) (hX : ∀ b, X b → b < W.heap.size) :
    Calls Try.prog 9 #[.slice va 2 vc, .int .i64 3, .int .i64 s, .int .i64 x, .int .i64 0] W fun e w' => ∃ va' vc' n', e = .returned (.tuple #[.slice va' n' vc', .int .i64 7]) ∧ Below W.heap.size W w' := by
  have g := two_good h
  refine (hS X va vc (two o C) 3 s x 0 W hX (goodP_len g) g.big hsl hp).mono ?_
  rintro e w' ⟨va', vc', rfl, hb, _, _⟩
  rw [(two_no h hs (Or.inl hx)).1]
  exact ⟨va', vc', _, rfl, hb⟩
theorem kPullNo (hPl : PullAnsX) (X : Nat → Prop) (va : Option Addr) (vc : Nat) (o : Nat → Int) (C : Nat → List (List Cl)) (s : Nat) (x : Int) (W : World) (h : TwoOk o C) (hs : s < 2) (hsl : SlA va 2 vc) (hp : PtsSt X W va (two o C)) (hX : ∀ b, X b → b < W.heap.size) :
    Calls Try.prog 8 #[.slice va 2 vc, .int .i64 3, .int .i64 s, .int .i64 x, .int .i64 1] W fun e w' => ∃ va' vc' n' ga gc gn, e = .returned (.tuple #[.slice va' n' vc', .agg #[.slice ga gn gc], .int .i64 7]) ∧ Below W.heap.size W w' := by
  have g := two_good h
  refine (hPl X va vc (two o C) 3 s x 1 W hX (goodP_len g) g.big hsl hp).mono ?_
  rintro e w' ⟨va', vc', ga, gc, rfl, hb, _, _, _⟩
  rw [(two_no h hs (Or.inr (by decide))).2]
  exact ⟨va', vc', _, ga, gc, _, rfl, hb⟩
theorem kPush (hU : PushAnsX) (X : Nat → Prop) (va : Option Addr) (vc : Nat) (o : Nat → Int) (C : Nat → List (List Cl)) (s : Nat) (ga : Option Addr) (gc : Nat) (G : List Cl) (W : World) (h : TwoOk o C) (hs : s < 2) (hsl : SlA va 2 vc) (hp : PtsSt X W va (two o C)) (hX : ∀ b, X b → b < W.heap.size) (hGN : G.length ≤ 9223372036854775807) (hGB : BigC G) (hG : ClsAt W ga G) :
    Calls Try.prog 7 #[.slice va 2 vc, .int .i64 3, .int .i64 s, .int .i64 (o s), .int .i64 0, .agg #[.slice ga G.length gc]] W fun e w' => ∃ va' vc' n' E, e = .returned (.tuple #[.slice va' n' vc', .int .i64 E]) ∧ Below W.heap.size W w' ∧ ((E = 0 ∧ n' = 2 ∧ SlA va' 2 vc' ∧ gcheckE G = 0 ∧ (C (1 - s)).length ≠ 16 ∧ PtsSt X w' va' (two o (upd C (1 - s) (C (1 - s) ++ [copyF G])))) ∨ (E ≠ 0 ∧ (gcheckE G = 0 → (C (1 - s)).length = 16))) := by
  have g := two_good h
  obtain ⟨e1, e2⟩ := two_push h hs G
  refine (hU X va vc (two o C) 3 s (o s) 0 ga gc G W hX (goodP_len g) g.big hsl hp hGN hGB hG).mono ?_
  rintro e w' ⟨va', vc', rfl, hb, h1, h2⟩
  refine ⟨va', vc', _, _, rfl, hb, ?_⟩
  by_cases hE : pushE (two o C) 3 s (o s) 0 G = 0
  · have er : resPush (two o C) 3 s (o s) 0 G = pushL (two o C) s G := if_pos hE
    rw [er, e2] at h1 h2
    rw [er, e2, two_len]
    rw [e1] at hE
    have hg : gcheckE G = 0 := by
      by_cases hg : gcheckE G = 0
      · exact hg
      · rw [if_pos hg] at hE; exact hE
    rw [if_neg (by simp [hg])] at hE
    have h16 : (C (1 - s)).length ≠ 16 := fun h => by rw [if_pos h] at hE; exact absurd hE (by decide)
    exact Or.inl ⟨by rw [e1, if_neg (by simp [hg]), if_neg h16], rfl, h1, hg, h16, h2⟩
  · refine Or.inr ⟨hE, fun hg => ?_⟩
    rw [e1, if_neg (by simp [hg])] at hE
    by_cases h16 : (C (1 - s)).length = 16
    · exact h16
    · exact absurd (if_neg h16) hE
theorem kPull (hPl : PullAnsX) (X : Nat → Prop) (va : Option Addr) (vc : Nat) (o : Nat → Int) (C : Nat → List (List Cl)) (s : Nat) (W : World) (h : TwoOk o C) (hs : s < 2) (hsl : SlA va 2 vc) (hp : PtsSt X W va (two o C)) (hX : ∀ b, X b → b < W.heap.size) :
    Calls Try.prog 8 #[.slice va 2 vc, .int .i64 3, .int .i64 s, .int .i64 (o s), .int .i64 0] W fun e w' => ∃ va' vc' n' ga gc gn E, e = .returned (.tuple #[.slice va' n' vc', .agg #[.slice ga gn gc], .int .i64 E]) ∧ Below W.heap.size W w' ∧ ((E = 0 ∧ n' = 2 ∧ SlA va' 2 vc' ∧ (C s).length ≠ 0 ∧ gn = (gr (C s) 0).length ∧ PtsSt X w' va' (two o (upd C s ((C s).drop 1))) ∧ ClsSt X w' ga (gr (C s) 0)) ∨ (E = 8 ∧ (C s).length = 0)) := by
  have g := two_good h
  obtain ⟨e1, e2, e3⟩ := two_pull h hs
  refine (hPl X va vc (two o C) 3 s (o s) 0 W hX (goodP_len g) g.big hsl hp).mono ?_
  rintro e w' ⟨va', vc', ga, gc, rfl, hb, h1, h2, h3⟩
  refine ⟨va', vc', _, ga, gc, _, _, rfl, hb, ?_⟩
  by_cases h0 : (C s).length = 0
  · exact Or.inr ⟨by rw [e1, if_pos h0], h0⟩
  · have hE : pullE (two o C) 3 s (o s) 0 = 0 := by rw [e1, if_neg h0]
    have er : resPull (two o C) 3 s (o s) 0 = pullL (two o C) s := if_pos hE
    have eg : pullG (two o C) 3 s (o s) 0 = gr (C s) 0 := by unfold pullG; rw [if_pos hE, Int.toNat_natCast]; exact e3
    rw [er, e2] at h1 h2
    rw [eg] at h3
    rw [er, e2, eg, two_len]
    exact Or.inl ⟨hE, rfl, h1, h0, rfl, h2, h3⟩
theorem kPass (hP : PassAnsX) (X : Nat → Prop) (va : Option Addr) (vc : Nat) (o : Nat → Int) (C : Nat → List (List Cl)) (s : Nat) (x : Int) (W : World) (h : TwoOk o C) (hs : s < 2) (hx : 0 ≤ x ∧ x ≤ 2) (hsl : SlA va 2 vc) (hp : PtsSt X W va (two o C)) (hX : ∀ b, X b → b < W.heap.size) :
    Calls Try.prog 6 #[.slice va 2 vc, .int .i64 3, .int .i64 s, .int .i64 (o s), .int .i64 0, .int .i64 x, .int .i64 0] W fun e w' => ∃ va' vc', e = .returned (.tuple #[.slice va' 2 vc', .int .i64 0]) ∧ Below W.heap.size W w' ∧ SlA va' 2 vc' ∧ PtsSt X w' va' (two (upd o s x) C) := by
  have g := two_good h
  obtain ⟨e1, e2⟩ := two_pass h hs hx
  have er : resPass (two o C) 3 s (o s) 0 x 0 = passL (two o C) s x 0 := if_pos e1
  have d := hP X va vc (two o C) 3 s (o s) 0 x 0 W hX (goodP_len g) g.big hsl hp
  rw [er, e2, e1, two_len, two_len] at d
  exact d
theorem kCheck (hC : PCheckAns) (X : Nat → Prop) (va : Option Addr) (vc : Nat) (o : Nat → Int) (C : Nat → List (List Cl)) (W : World) (h : TwoOk o C) (hsl : SlA va 2 vc) (hp : PtsSt X W va (two o C)) :
    Calls Try.prog 16 #[.slice va 2 vc, .int .i64 3] W fun e w' => e = .returned (.int .i64 0) ∧ Below W.heap.size W w' := by
  have g := two_good h
  have d := hC va vc (two o C) 3 W (goodP_len g) g.big hsl hp.at
  rw [two_check h, two_len] at d
  exact d
end Go.Proofs.Ytgjfmepbphfjoaa
