/-
  Searches among hearers with any closure; EventTold's closure.
-/
import Derived.Test.YtkcclfilpchgkaaJHfHk
namespace Go.Proofs.Ytkcclfilpchgkaa
open Go.RowKit

/-- What is asked of a function value that tells yes or no of a hearer. -/
def TellsHr (Ok : Hr → Prop) (K : Nat) (caps : Array Value) (p : Hr → Bool) (w : World) : Prop :=
  ∀ (x : Hr) (w1 : World), Ok x → Below w.heap.size w w1 → Calls Try.prog K (#[.agg #[.int .i64 x.pl, .bool x.dn, .bool x.on, .bool x.st, .int .i64 x.id]] ++ caps) w1 fun e w2 => e = .returned (.bool (p x)) ∧ Below w1.heap.size w1 w2

set_option maxHeartbeats 800000 in
theorem indexHr_any (Ok : Hr → Prop) (K : Nat) (caps : Array Value) (p : Hr → Bool) (a : Option Addr) (c : Nat) (L : List Hr) (w : World) (hbig : L.length ≤ 9223372036854775807) (hL : HrsAt w a L)
    (eg : ∀ args w, (callFunc K args).run Try.prog w = .ok (.enter K args) w) (hok : ∀ i, i < L.length → Ok (hr L i)) (hf : TellsHr Ok K caps p w) :
    Calls Try.prog 14 #[.slice a L.length c, .func (.func K) #[] caps] w fun e w' => ∃ r : Int, e = .returned (.int .i64 r) ∧ Below w.heap.size w w' ∧
      ((r = -1 ∧ ∀ i, i < L.length → p (hr L i) = false) ∨ (∃ k : Nat, k < L.length ∧ r = k ∧ p (hr L k) = true ∧ ∀ i, i < k → p (hr L i) = false)) := by
  have HS : Hid (HrsAt w a L) := hL
  have HF : Hid (TellsHr Ok K caps p w) := hf
  have HOK : Hid (∀ i, i < L.length → Ok (hr L i)) := hok
  clear hL hf hok
  generalize hn : L.length = n at *
  have HN : Hid _ := hn
  clear hn
  go_enter Try.func14, Try.ntmps14
  go_wp2
  go_loopg [8] n (fun g s8 wr => ∃ k : Nat, k ≤ n ∧ n - k ≤ g ∧ s8 = .int .i64 k ∧ Below w.heap.size w wr ∧ Hid (∀ i, i < k → p (hr L i) = false))
  case atStart => exact ⟨0, by omega, by omega, rfl, Below.refl _ _, fun i hi => by omega⟩
  case round =>
    obtain ⟨k, hk, hg, rfl, hb, A⟩ := hrel
    by_cases hlt : k < n
    · have hlt2 : (k : Int) < (n : Int) := by omega
      obtain ⟨b, o, rfl, c0, c1, c2, c3, c4⟩ := (HS.out.below hb) k (by rw [HN.out]; exact hlt)
      have hcall := HF.out (hr L k) wr (HOK.out k hlt) hb
      cases hq : p (hr L k) with
      | true =>
        have HQ : Hid (p (hr L k) = true) := hq
        rw [hq] at hcall
        clear hq
        generalize hx : hr L k = x at hcall c0 c1 c2 c3 c4
        clear hx
        go_wp2_with (go_at_fn K; refine hcall.mono ?_; rintro e w' ⟨rfl, hb2⟩)
        go_ret
        exact ⟨k, rfl, hb.trans (hb2.mono hb.size), Or.inr ⟨k, hlt, rfl, HQ.out, A.out⟩⟩
      | false =>
        have HQ : Hid (p (hr L k) = false) := hq
        rw [hq] at hcall
        clear hq
        generalize hx : hr L k = x at hcall c0 c1 c2 c3 c4
        clear hx
        go_wp2_with (go_at_fn K; refine hcall.mono ?_; rintro e w' ⟨rfl, hb2⟩)
        go_roundg (n - (k + 1))
        case measure => omega
        case rel =>
          refine ⟨k + 1, by omega, by omega, by go_num, hb.trans (hb2.mono hb.size), (show Hid _ from fun i hi => ?_)⟩
          by_cases e : i = k
          · subst e
            exact HQ.out
          · exact A.out i (by omega)
    · have : k = n := by omega
      subst this
      go_wp2
      go_ret
      exact ⟨-1, rfl, hb, Or.inl ⟨rfl, A.out⟩⟩

/-- EventTold's closure: this hearer has the call's ID. -/
theorem told1_any (q : Nat) (y : Int) (w : World) (hq : w.cell? ⟨q, 0, none⟩ = some (.int .i64 y)) : TellsHr (fun _ => True) 15 #[.pointer (some ⟨q, 0, none⟩)] (fun x => decide (x.id = y)) w := by
  intro x w1 _ hb
  obtain ⟨xp, xd, xo, xs, xi⟩ := x
  have c0 := keepC hq hb
  have hlt := World.block_lt_of_cell? _ _ c0
  dsimp only
  by_cases h : xi = y
  · rw [decide_eq_true h]
    subst h
    go_enter Try.func15, Try.ntmps15
    go_wp2_with fail
    go_ret
    exact ⟨by simp, one_belowS _ _⟩
  · rw [decide_eq_false h]
    have h2 : (xi == y) = false := by simp [h]
    go_enter Try.func15, Try.ntmps15
    go_wp2_with fail
    go_ret
    exact ⟨by simp, one_belowS _ _⟩
end Go.Proofs.Ytkcclfilpchgkaa
