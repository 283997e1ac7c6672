/-
  The reference's rootOf.
-/
import Derived.Test.YthlpkdmmkfhleacJLiLj
namespace Go.Proofs.Ythlpkdmmkfhleac
open Go.RowKit

set_option maxRecDepth 100000 in
set_option maxHeartbeats 1000000 in
theorem rRootOf_any (a : Option Addr) (c : Nat) (S : List Nd) (k : Int) (w : World) (hN : S.length ≤ 9223372036854775807) (hk : k ≠ -1) (hS : NdsAt w a S) :
    Calls Try.prog 54 #[.agg #[.slice a S.length c], .int .i64 k] w fun e w' => e = .returned (.int .i64 (rootE S k)) ∧ Below w.heap.size w w' := by
  have HS : Hid (NdsAt w a S) := hS
  have T1 : Hid (∀ i, i < S.length → (nd S i).h = k → (∀ j, j < i → (nd S j).h ≠ k) → rootE S k = i) := fun i hi h1 h2 => rootE_some hk hi h1 h2
  have T2 : Hid ((∀ i, i < S.length → (nd S i).h ≠ k) → rootE S k = -1) := fun h => rootE_none h
  clear hS hk
  generalize rootE S k = R at *
  obtain ⟨n, hn⟩ : ∃ n, S.length = n := ⟨_, rfl⟩
  have HN : Hid (S.length = n) := hn
  rw [hn] at hN T1 T2 ⊢
  clear hn
  go_enter Try.func54, Try.ntmps54
  go_wp2_with fail
  go_loopg [10] n (fun g s10 wr => ∃ i : Nat, i ≤ n ∧ n - i ≤ g ∧ s10 = .int .i64 i ∧ Hid (Below w.heap.size w wr) ∧ Hid (∀ j, j < i → (nd S j).h ≠ k))
  case atStart => exact ⟨0, by omega, by omega, rfl, one_belowS _ _, fun j hj => absurd hj (Nat.not_lt_zero _)⟩
  case round =>
    obtain ⟨i, hi, hg, rfl, HB, NF⟩ := hrel
    by_cases hlt : i < n
    · have hlt2 : (i : Int) < (n : Int) := by omega
      obtain ⟨b, o, ea, c0, c1, c2, c3, c4, ⟨ka, kc, c5, _⟩, c6, c7⟩ := (HS.out.below HB.out) i (by rw [HN.out]; exact hlt)
      subst ea
      have X1 : Hid ((nd S i).h = k → R = i) := fun h => T1.out i hlt h NF.out
      have NX : Hid ((nd S i).h ≠ k → ∀ j, j < i + 1 → (nd S j).h ≠ k) := fun h j hj => by
        by_cases e : j = i
        · subst e; exact h
        · exact NF.out j (by omega)
      clear NF
      generalize nd S i = x at *
      obtain ⟨xu, xn, xt, xm, xp, xks, xh, xc⟩ := x
      dsimp only at c0 c1 c2 c3 c4 c5 c6 c7 NX X1
      generalize xks.length = xl at *
      by_cases hh : xh = k
      · subst hh
        have HR : Hid (R = i) := X1.out rfl
        clear X1 NX
        go_wp2_with fail
        go_ret
        exact ⟨by first | (rw [HR.out]; done) | exact HR.out.symm | simp [HR.out], HB.out.trans ((one_belowS _ _).mono HB.out.size)⟩
      · have h1 : (xh == k) = false := beq_eq_false_iff_ne.2 hh
        have h2 : decide (xh = k) = false := decide_eq_false hh
        have NX2 : Hid (∀ j, j < i + 1 → (nd S j).h ≠ k) := NX.out hh
        clear X1 NX
        go_wp2_with fail
        go_roundg (n - (i + 1))
        case measure => omega
        case rel => exact ⟨i + 1, by omega, by omega, by go_num, HB.out.trans ((one_belowS _ _).mono HB.out.size), NX2⟩
    · have hie : i = n := by omega
      subst hie
      have HR : Hid (R = -1) := T2.out NF.out
      clear NF
      go_wp2_with fail
      go_ret
      exact ⟨by first | (rw [HR.out]; done) | exact HR.out.symm | simp [HR.out], HB.out⟩
end Go.Proofs.Ythlpkdmmkfhleac
