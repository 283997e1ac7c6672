/-
  Are ports alike? The reference's SamePorts.
-/
import Derived.Test.YtgjfmepbphfjoaaUPb
namespace Go.Proofs.Ytgjfmepbphfjoaa
open Go.RowKit
set_option linter.unusedVariables false

theorem pt_eq_iff (x y : Pt) : x = y ↔ (x.o = y.o ∧ x.t = y.t ∧ x.m = y.m ∧ x.s = y.s ∧ x.cm = y.cm) := by
  constructor
  · rintro rfl; exact ⟨rfl, rfl, rfl, rfl, rfl⟩
  · obtain ⟨a, b, c, d, e⟩ := x
    obtain ⟨a', b', c', d', e'⟩ := y
    rintro ⟨rfl, rfl, rfl, rfl, rfl⟩
    rfl
theorem rgsame_tells : TellsG 20 := fun x y ka ka' kc kc' W hN hB h1 h2 => rgsame_any ka ka' kc kc' x y W hN hB h1 h2

set_option maxRecDepth 100000 in
set_option maxHeartbeats 2000000 in
theorem rsameP1_any : TellsP 41 := by
  intro x y ka ka' kc kc' W hbig hB h1 h2
  have IFF : Hid (x = y ↔ (x.o = y.o ∧ x.t = y.t ∧ x.m = y.m ∧ x.s = y.s ∧ x.cm = y.cm)) := pt_eq_iff x y
  have d := fun (o1 o2 : Obj) => equalGrs_any 20 (enters_of Try.func20 (by kernel_rfl) rfl) rgsame_tells ka ka' kc kc' x.cm y.cm ((W.alloc o1).alloc o2) hbig hB (h1.below (two_belowS _ _ _)) (h2.below (two_belowS _ _ _))
  have D : Hid _ := d
  clear h1 h2 d hB
  obtain ⟨xo, xt, xm, xc, xs⟩ := x
  obtain ⟨yo, yt, ym, yc, ys⟩ := y
  dsimp only at IFF D ⊢
  obtain ⟨xl, hxl⟩ : ∃ z, xc.length = z := ⟨_, rfl⟩
  obtain ⟨yl, hyl⟩ : ∃ z, yc.length = z := ⟨_, rfl⟩
  rw [hxl, hyl] at D
  rw [hxl, hyl]
  clear hxl hyl hbig
  by_cases h0 : xo = yo
  · subst h0
    by_cases h1 : xt = yt
    · subst h1
      by_cases h2 : xm = ym
      · subst h2
        by_cases hs : xs = ys
        · subst hs
          have IFF2 : Hid ((⟨xo, xt, xm, xc, xs⟩ : Pt) = ⟨xo, xt, xm, yc, xs⟩ ↔ xc = yc) := by show _ ↔ _; rw [IFF.out]; simp
          clear IFF
          go_enter Try.func41, Try.ntmps41
          go_wp2_with fail
          refine Calls.mono (D.out _ _) ?_
          rintro e w1 ⟨r, rfl, hb, hr⟩
          have HB : Hid (Below W.heap.size W w1) := (two_belowS _ _ _).trans (hb.mono (by simp; omega))
          have HR : Hid _ := hr.trans IFF2.out.symm
          clear hb hr
          go_wp2_with fail
          go_ret
          exact ⟨r, rfl, HB.out, HR.out⟩
        · have HR : Hid (¬ (⟨xo, xt, xm, xc, xs⟩ : Pt) = ⟨xo, xt, xm, yc, ys⟩) := fun h => hs (IFF.out.1 h).2.2.2.1
          have hd : decide (xs = ys) = false := decide_eq_false hs
          have hd2 : (xs == ys) = false := by cases xs <;> cases ys <;> simp_all
          clear IFF
          go_enter Try.func41, Try.ntmps41
          go_wp2_with fail
          go_ret
          exact ⟨false, rfl, two_belowS _ _ _, ⟨fun h => (by cases h), fun h => absurd h HR.out⟩⟩
      · have HR : Hid (¬ (⟨xo, xt, xm, xc, xs⟩ : Pt) = ⟨xo, xt, ym, yc, ys⟩) := fun h => h2 (IFF.out.1 h).2.2.1
        have hd : decide (xm = ym) = false := decide_eq_false h2
        have hd2 : (xm == ym) = false := by simp [h2]
        clear IFF
        go_enter Try.func41, Try.ntmps41
        go_wp2_with fail
        go_ret
        exact ⟨false, rfl, two_belowS _ _ _, ⟨fun h => (by cases h), fun h => absurd h HR.out⟩⟩
    · have HR : Hid (¬ (⟨xo, xt, xm, xc, xs⟩ : Pt) = ⟨xo, yt, ym, yc, ys⟩) := fun h => h1 (IFF.out.1 h).2.1
      have hd : decide (xt = yt) = false := decide_eq_false h1
      have hd2 : (xt == yt) = false := by simp [h1]
      clear IFF
      go_enter Try.func41, Try.ntmps41
      go_wp2_with fail
      go_ret
      exact ⟨false, rfl, two_belowS _ _ _, ⟨fun h => (by cases h), fun h => absurd h HR.out⟩⟩
  · have HR : Hid (¬ (⟨xo, xt, xm, xc, xs⟩ : Pt) = ⟨yo, yt, ym, yc, ys⟩) := fun h => h0 (IFF.out.1 h).1
    have hd : decide (xo = yo) = false := decide_eq_false h0
    have hd2 : (xo == yo) = false := by simp [h0]
    clear IFF
    go_enter Try.func41, Try.ntmps41
    go_wp2_with fail
    go_ret
    exact ⟨false, rfl, two_belowS _ _ _, ⟨fun h => (by cases h), fun h => absurd h HR.out⟩⟩

set_option maxHeartbeats 400000 in
theorem rsameP_any (a a' : Option Addr) (c c' : Nat) (S S' : List Pt) (w : World) (hN : S.length ≤ 9223372036854775807) (hB : BigP S) (h1 : PtsAt w a S) (h2 : PtsAt w a' S') :
    Calls Try.prog 19 #[.slice a S.length c, .slice a' S'.length c'] w fun e w' => ∃ r : Bool, e = .returned (.bool r) ∧ Below w.heap.size w w' ∧ (r = true ↔ S = S') := by
  have D1 : Hid _ := equalPts_any 41 (enters_of Try.func41 (by kernel_rfl) rfl) rsameP1_any a a' c c' S S' w hN hB h1 h2
  clear h1 h2 hB
  generalize S.length = n at *
  generalize S'.length = n' at *
  go_enter Try.func19, Try.ntmps19
  go_wp2_with fail
  refine Calls.mono D1.out ?_
  rintro e w1 ⟨r, rfl, hb, hr⟩
  have HR : Hid _ := hr
  clear hr
  go_wp2_with fail
  go_ret
  exact ⟨r, rfl, hb, HR.out⟩

end Go.Proofs.Ytgjfmepbphfjoaa
