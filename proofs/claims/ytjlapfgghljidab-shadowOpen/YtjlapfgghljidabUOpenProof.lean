/-
  What is proved: the Go function glasshouselaw.ShadowOpen, called with whatever store and whatever three hands, in whatever memory, returns true, and each argument reads afterwards as it read before: a root that isn't closed hides nothing more; what stands in it is seen as its host is. No condition but the form's own (that the arguments can be read).
-/
import Derived.Test.YtjlapfgghljidabRows
import Derived.Test.YtjlapfgghljidabUZo
import Derived.Test.YtjlapfgghljidabUToTp
import Derived.WalkKit
import Derived.ProofKit
import Derived.OpenShut
import Derived.ShutString
import Derived.ChangeOld
import Derived.Below
namespace Go.Proofs.Ytjlapfgghljidab.shadowOpen
open Go.ChangeShapes Go.WideShapes Go.ChangeAt Go.RowKit
set_option linter.unusedVariables false

theorem own : ownKnob Try.prog.godebug = none := by kernel_rfl
theorem laidOut : laidOutB Try.prog = true := by kernel_rfl

theorem open_any (a : Option Addr) (c : Nat) (S : List Nd) (h uh p u q v : Int) (w : World) (hN : S.length ≤ 9223372036854775807) (hB : Big S) (hS : NdsAt w a S) :
    Calls Try.prog 8 #[.agg #[.slice a S.length c], .agg #[.int .i64 h, .int .i64 uh], .agg #[.int .i64 p, .int .i64 u], .agg #[.int .i64 q, .int .i64 v]] w fun e w' => e = .returned (.bool true) ∧ Below w.heap.size w w' := by
  -- what Seen answers, and what Attach answers
  have SE : (∃ e1, e1 ≠ 0 ∧ ∀ W, NdsAt W a S → Calls Try.prog 26 #[.agg #[.slice a S.length c], .agg #[.int .i64 p, .int .i64 u], .agg #[.int .i64 q, .int .i64 v]] W fun e w' => ∃ b : Bool, e = .returned (.tuple #[.bool b, .int .i64 e1]) ∧ Below W.heap.size W w') ∨ (findE S p u = 0 ∧ findE S q v = 0) := by
    by_cases h1 : findE S p u = 0
    · by_cases h2 : findE S q v = 0
      · exact Or.inr ⟨h1, h2⟩
      · obtain ⟨wf, k, rfl, hk, _⟩ := find_used h1
        exact Or.inl ⟨_, h2, fun W hW => Calls.mono (seen_err2 a c S k u q v _ W hN hB hW hk h1 (by have := wf.kids_small hk; omega) rfl h2) (fun e w' ⟨g1, g2⟩ => ⟨_, g1, g2⟩)⟩
    · exact Or.inl ⟨_, h1, fun W hW => Calls.mono (seen_err1 a c S p u q v _ W hN hB hW rfl h1) (fun e w' ⟨g1, g2⟩ => ⟨_, g1, g2⟩)⟩
  have AE : (∃ f1, f1 ≠ 0 ∧ ∀ W, NdsAt W a S → Calls Try.prog 25 #[.agg #[.slice a S.length c], .agg #[.int .i64 h, .int .i64 uh], .bool false] W fun e w' => ∃ (ga : Option Addr) (gn gc : Nat) (r0 r1 : Int), e = .returned (.tuple #[.agg #[.slice ga gn gc], .agg #[.int .i64 r0, .int .i64 r1], .int .i64 f1]) ∧ Below W.heap.size W w') ∨
      (∃ k f : Nat, h = k ∧ WF S ∧ k < S.length ∧ ((nd S k).u = true ∧ (nd S k).n = uh) ∧ findE S k uh = 0 ∧ hostB S k = false ∧ f < S.length ∧ freeB (nd S f) = true ∧ ∀ i, i < f → freeB (nd S i) = false) := by
    by_cases h1 : findE S h uh = 0
    · obtain ⟨wf, k, rfl, hk, hku⟩ := find_used h1
      cases hH : hostB S k with
      | true => exact Or.inl ⟨6, by omega, fun W hW => Calls.mono (attach_err2 a c S k uh false W wf hW hk h1 hH) (fun e w' ⟨g1, g2⟩ => ⟨_, _, _, _, _, g1, g2⟩)⟩
      | false =>
        by_cases hM : makeE S 0 = 0
        · have hf : S.any freeB = true := by
            unfold makeE at hM
            rw [if_pos ((wf_iff S).2 wf), if_pos (by omega)] at hM
            cases hq : S.any freeB with
            | true => rfl
            | false => rw [hq, if_neg (by simp)] at hM; omega
          obtain ⟨f, g1, g2, g3⟩ := first_free hf
          exact Or.inr ⟨k, f, rfl, wf, hk, hku, h1, hH, g1, g2, g3⟩
        · exact Or.inl ⟨_, hM, fun W hW => Calls.mono (attach_err3 a c S k uh _ false W wf hW hk h1 hH rfl hM) (fun e w' ⟨g1, g2⟩ => ⟨_, _, _, _, _, g1, g2⟩)⟩
    · exact Or.inl ⟨_, h1, fun W hW => Calls.mono (attach_err1 a c S h uh _ false W hN hB hW rfl h1) (fun e w' ⟨g1, g2⟩ => ⟨_, _, _, _, _, g1, g2⟩)⟩
  rcases AE with ⟨f1, hf1, DA⟩ | ⟨k, f, rfl, wf, hk, hku, fk, hH, g1, g2, g3⟩
  · rcases SE with ⟨e1, he1, DS⟩ | ⟨s1, s2⟩
    · exact open_bad veiled_ok a c S h uh p u q v e1 f1 w hS (Or.inl (by simp [he1])) DS DA
    · obtain ⟨wf, x, rfl, hx, _⟩ := find_used s1
      obtain ⟨_, y, rfl, hy, _⟩ := find_used s2
      exact open_bad veiled_ok a c S h uh x u y v 0 f1 w hS (Or.inr ⟨rfl, by simp [hf1]⟩) (fun W hW => Calls.mono (seen_ok a c S x y u v W wf hW hx hy s1 s2) (fun e w' ⟨g1, g2⟩ => ⟨_, g1, g2⟩)) DA
  · rcases SE with ⟨e1, he1, DS⟩ | ⟨s1, s2⟩
    · exact open_bad veiled_ok a c S k uh p u q v e1 0 w hS (Or.inl (by simp [he1])) DS (fun W hW => Calls.mono (attach_ok a c S k f uh false W wf hW hk fk hH g1 g2 g3) (fun e w' ⟨g, g4, g5, _⟩ => ⟨_, _, _, _, _, g4, g5⟩))
    · obtain ⟨_, x, rfl, hx, hxu⟩ := find_used s1
      obtain ⟨_, y, rfl, hy, hyu⟩ := find_used s2
      exact open_ok veiled_ok a c S k x y f uh u v w wf hS hk hku hx hxu hy hyu hH g1 g2 g3

set_option maxRecDepth 100000 in
theorem lifted (os : Os) (started : os.Started) (H : Type) (enc : TypeId × Value → H) :
    ReturnsInHanded {} Try.checked os 8 .any (Rows.shadowOpenSpec.pre6 enc Try.prog Try.f8 Rows.shadowOpenRow.domain false) (Rows.shadowOpenSpec.post enc Try.prog Try.f8 false true false false) := by
  refine returnsInHanded_of_change (C := Try.checked) own started (by kernel_rfl) Try.func8
    (ChangeSpec.witness6 (enc := enc) (C := Try.checked) false ⟨#[], #[.agg #[.slice none 0 0], .agg #[.int .i64 0, .int .i64 0], .agg #[.int .i64 0, .int .i64 0], .agg #[.int .i64 0, .int .i64 0]], []⟩ 8 (by kernel_rfl) (by kernel_rfl) (by kernel_rfl) (by kernel_rfl)) ?_
  intro W base args ds gs before hval0 hW hcnd _
  have hval : ∀ (j : Nat) t v, Try.f8.params[j]? = some t → args[j]? = some v → Value.okWide Try.prog W .any base t v := hval0
  have hW' := hW
  obtain ⟨p, q, hA0, hV, rfl, hfz, hnd⟩ := hW
  have hA : DataW.TrodAll enc Try.prog W 0 (fun _ => true) true Try.f8.params.toList args.toList ds p := hA0
  rw [Try.params8] at hA hval
  obtain ⟨v0, vs0, d0, ds0, p0, q0, hargs, rfl, rfl, h0, r0⟩ := trodAll_cons hA
  obtain ⟨v1, vs1, d1, ds1, p1, q1, rfl, rfl, rfl, h1, r1⟩ := trodAll_cons r0
  obtain ⟨v2, vs2, d2, ds2, p2, q2, rfl, rfl, rfl, h2, r2⟩ := trodAll_cons r1
  obtain ⟨v3, vs3, d3, ds3, p3, q3, rfl, rfl, rfl, h3, r3⟩ := trodAll_cons r2
  obtain ⟨rfl, rfl, rfl⟩ := trodAll_nil r3
  obtain rfl : args = #[v0, v1, v2, v3] := by cases args; simp_all
  obtain ⟨rfl, rfl⟩ := trodVars_none hV
  obtain ⟨a, c, S, rfl, hN, hB, hS⟩ := open_store (hval 0 24 v0 rfl rfl) h0
  obtain ⟨x, y, rfl⟩ := open_hand (hval 1 26 v1 rfl rfl) h1
  obtain ⟨x2, y2, rfl⟩ := open_hand (hval 2 26 v2 rfl rfl) h2
  obtain ⟨x3, y3, rfl⟩ := open_hand (hval 3 26 v3 rfl rfl) h3
  have lt0 : ∀ x ∈ p0, x.block < W.heap.size := by obtain ⟨m, hm⟩ := h0; exact DataW.trod_lt m _ _ _ hm
  have lt1 : ∀ x ∈ p1, x.block < W.heap.size := by obtain ⟨m, hm⟩ := h1; exact DataW.trod_lt m _ _ _ hm
  have lt2 : ∀ x ∈ p2, x.block < W.heap.size := by obtain ⟨m, hm⟩ := h2; exact DataW.trod_lt m _ _ _ hm
  have lt3 : ∀ x ∈ p3, x.block < W.heap.size := by obtain ⟨m, hm⟩ := h3; exact DataW.trod_lt m _ _ _ hm
  clear hA0 hval0
  refine (open_any a c S x y x2 y2 x3 y3 W hN hB hS).mono fun e W' ⟨he, bel⟩ => ?_
  subst he
  exact ⟨_, rfl, _, _, _, [], _, [], hW', trodAll_mk1 (shut_bool Try.underlying4 _), (trodAll_cons_mk (Below.trod laidOut (by kernel_rfl) (of_decide_eq_true (by kernel_rfl)) h0 bel lt0) (trodAll_cons_mk (Below.trod laidOut (by kernel_rfl) (of_decide_eq_true (by kernel_rfl)) h1 bel lt1) (trodAll_cons_mk (Below.trod laidOut (by kernel_rfl) (of_decide_eq_true (by kernel_rfl)) h2 bel lt2) (trodAll_cons_mk (Below.trod laidOut (by kernel_rfl) (of_decide_eq_true (by kernel_rfl)) h3 bel lt3) trodAll_mk0)))), rfl, bel.frame _, fun h => by cases h⟩

theorem over : Rows.shadowOpenRow.holds Try.pinned (OpenSpec.ofChange Rows.shadowOpenSpec) :=
  OpenClaim.holds_of_wide 8 Try.f8 rfl rfl rfl rfl rfl rfl rfl ⟨rfl, rfl, rfl, rfl, rfl⟩ rfl rfl rfl rfl rfl (by kernel_rfl) Try.func8 (by kernel_rfl)
    (of_decide_eq_true (by kernel_rfl)) (by unfold Func.isWrapper; first | (rw [if_pos (by decide +kernel)]; kernel_rfl) | (rw [if_neg (by decide +kernel)]; exact ⟨rfl, rfl⟩))
    (fun os started H enc _ => lifted os started H enc)

/-- The given statement. -/
theorem proved : Rows.ShadowOpenSaid := over
#print axioms proved
end Go.Proofs.Ytjlapfgghljidab.shadowOpen
