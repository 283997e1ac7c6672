/-
  Dispatch, and the reference's Dispatched, where something is wrong.
-/
import Derived.Test.YtebhlcjljdgnkaaUHbRaSlSmBkBoLay
import Derived.Test.YtebhlcjljdgnkaaURsRv
import Derived.Test.YtebhlcjljdgnkaaURqRjRrZhZkRzHf
import Derived.Test.YtebhlcjljdgnkaaUTn
namespace Go.Proofs.Ytebhlcjljdgnkaa
open Go.RowKit
set_option linter.unusedVariables false

set_option maxRecDepth 100000 in
set_option maxHeartbeats 1000000 in
theorem disp_err1 (a : Option Addr) (c : Nat) (S : List Nd) (la : Option Addr) (lc : Nat) (L : List Hr) (p u E : Int) (w : World) (hN : S.length ≤ 9223372036854775807) (hB : Big S) (hS : NdsAt w a S) (hE : findE S p u = E) (hE0 : E ≠ 0) :
    Calls Try.prog 5 #[.agg #[.slice a S.length c], .slice la L.length lc, .agg #[.int .i64 p, .int .i64 u]] w fun e w' => e = .returned (.tuple #[.slice none 0 0, .slice none 0 0, .int .i64 E]) ∧ Below w.heap.size w w' := by
  have D1 : Hid (∀ W, NdsAt W a S → Calls _ _ _ _ _) := fun W hW => path_err a c S p u E W hN hB hW hE hE0
  have HS : Hid (NdsAt w a S) := hS
  have e1 : (E == 0) = false := beq_eq_false_iff_ne.2 hE0
  have e2 : decide (E = 0) = false := decide_eq_false hE0
  clear hS hE hB
  generalize S.length = n at *
  generalize L.length = m at *
  go_enter Try.func5, Try.ntmps5
  go_wp2_with fail
  refine Calls.mono (D1.out _ (HS.out.below (two_belowS _ _ _))) ?_
  rintro e w1 ⟨rfl, hb⟩
  have HB1 : Hid (Below w.heap.size w w1) := (two_belowS w _ _).trans (hb.mono (by simp; omega))
  clear hb
  go_wp2_with fail
  refine bodyPost_ret (v := .tuple #[.slice none 0 0, .slice none 0 0, .int .i64 E]) (by simp [results, Try.results5, go_sem]) rfl ⟨rfl, HB1.out⟩

set_option maxRecDepth 100000 in
set_option maxHeartbeats 1000000 in
theorem disp_err2 (a : Option Addr) (c : Nat) (S : List Nd) (la : Option Addr) (lc : Nat) (L : List Hr) (k : Nat) (u E : Int) (w : World) (wf : WF S) (hS : NdsAt w a S) (hk : k < S.length) (hE : findE S k u = 0) (hL : L.length ≤ 9223372036854775807) (hBL : BigH L) (hH : HrsAt w la L) (hE1 : hcheckE L S.length = E) (hE0 : E ≠ 0) :
    Calls Try.prog 5 #[.agg #[.slice a S.length c], .slice la L.length lc, .agg #[.int .i64 (k : Int), .int .i64 u]] w fun e w' => e = .returned (.tuple #[.slice none 0 0, .slice none 0 0, .int .i64 E]) ∧ Below w.heap.size w w' := by
  have D1 : Hid (∀ W, NdsAt W a S → Calls _ _ _ _ _) := fun W hW => path_ok a c S k u W wf hW hk hE
  have d2 := fun (W : World) (hW : HrsAt W la L) => hcheck_any la lc L (S.length : Int) W hL hBL hW
  rw [hE1] at d2
  have D2 : Hid _ := d2
  have HS : Hid (NdsAt w a S) := hS
  have HL : Hid (HrsAt w la L) := hH
  have e1 : (E == 0) = false := beq_eq_false_iff_ne.2 hE0
  have e2 : decide (E = 0) = false := decide_eq_false hE0
  have hN := wf.small
  clear hS hE wf hH d2 hE1 hBL hk
  generalize pathF S k = P at *
  generalize S.length = n at *
  generalize L.length = m at *
  go_enter Try.func5, Try.ntmps5
  go_wp2_with fail
  refine Calls.mono (D1.out _ (HS.out.below (two_belowS _ _ _))) ?_
  rintro e w1 ⟨v, rfl, hb, _⟩
  have l0 := keepC (alloc_cell1 w #[.slice a n c] 24 0 (.cells #[.int .i64 (k : Int), .int .i64 u] 27) rfl) hb
  have HB1 : Hid (Below w.heap.size w w1) := (two_belowS w _ _).trans (hb.mono (by simp; omega))
  clear hb
  go_wp2_with fail
  refine Calls.mono (D2.out _ (HL.out.below HB1.out)) ?_
  rintro e w2 ⟨rfl, hb⟩
  have HB2 : Hid (Below w.heap.size w w2) := HB1.out.trans (hb.mono HB1.out.size)
  clear hb
  go_wp2_with fail
  refine bodyPost_ret (v := .tuple #[.slice none 0 0, .slice none 0 0, .int .i64 E]) (by simp [results, Try.results5, go_sem]) rfl ⟨rfl, HB2.out⟩

end Go.Proofs.Ytebhlcjljdgnkaa

namespace Go.Proofs.Ytebhlcjljdgnkaa
open Go.RowKit

/-- What is asked of a function value that tells yes or no of a hearer. -/
def TellsHr (Ok : Hr → Prop) (K : Nat) (caps : Array Value) (p : Hr → Bool) (w : World) : Prop :=
  ∀ (x : Hr) (w1 : World), Ok x → Below w.heap.size w w1 → Calls Try.prog K (#[.agg #[.int .i64 x.pl, .bool x.dn, .bool x.on, .bool x.st, .int .i64 x.id]] ++ caps) w1 fun e w2 => e = .returned (.bool (p x)) ∧ Below w1.heap.size w1 w2

set_option maxHeartbeats 800000 in
theorem indexHr_any (Ok : Hr → Prop) (K : Nat) (caps : Array Value) (p : Hr → Bool) (a : Option Addr) (c : Nat) (L : List Hr) (w : World) (hbig : L.length ≤ 9223372036854775807) (hL : HrsAt w a L)
    (eg : ∀ args w, (callFunc K args).run Try.prog w = .ok (.enter K args) w) (hok : ∀ i, i < L.length → Ok (hr L i)) (hf : TellsHr Ok K caps p w) :
    Calls Try.prog 8 #[.slice a L.length c, .func (.func K) #[] caps] w fun e w' => ∃ r : Int, e = .returned (.int .i64 r) ∧ Below w.heap.size w w' ∧
      ((r = -1 ∧ ∀ i, i < L.length → p (hr L i) = false) ∨ (∃ k : Nat, k < L.length ∧ r = k ∧ p (hr L k) = true ∧ ∀ i, i < k → p (hr L i) = false)) := by
  have HS : Hid (HrsAt w a L) := hL
  have HF : Hid (TellsHr Ok K caps p w) := hf
  have HOK : Hid (∀ i, i < L.length → Ok (hr L i)) := hok
  clear hL hf hok
  generalize hn : L.length = n at *
  have HN : Hid _ := hn
  clear hn
  go_enter Try.func8, Try.ntmps8
  go_wp2
  go_loopg [8] n (fun g s8 wr => ∃ k : Nat, k ≤ n ∧ n - k ≤ g ∧ s8 = .int .i64 k ∧ Below w.heap.size w wr ∧ Hid (∀ i, i < k → p (hr L i) = false))
  case atStart => exact ⟨0, by omega, by omega, rfl, Below.refl _ _, fun i hi => by omega⟩
  case round =>
    obtain ⟨k, hk, hg, rfl, hb, A⟩ := hrel
    by_cases hlt : k < n
    · have hlt2 : (k : Int) < (n : Int) := by omega
      obtain ⟨b, o, rfl, c0, c1, c2, c3, c4⟩ := (HS.out.below hb) k (by rw [HN.out]; exact hlt)
      have hcall := HF.out (hr L k) wr (HOK.out k hlt) hb
      cases hq : p (hr L k) with
      | true =>
        have HQ : Hid (p (hr L k) = true) := hq
        rw [hq] at hcall
        clear hq
        generalize hx : hr L k = x at hcall c0 c1 c2 c3 c4
        clear hx
        go_wp2_with (go_at_fn K; refine hcall.mono ?_; rintro e w' ⟨rfl, hb2⟩)
        go_ret
        exact ⟨k, rfl, hb.trans (hb2.mono hb.size), Or.inr ⟨k, hlt, rfl, HQ.out, A.out⟩⟩
      | false =>
        have HQ : Hid (p (hr L k) = false) := hq
        rw [hq] at hcall
        clear hq
        generalize hx : hr L k = x at hcall c0 c1 c2 c3 c4
        clear hx
        go_wp2_with (go_at_fn K; refine hcall.mono ?_; rintro e w' ⟨rfl, hb2⟩)
        go_roundg (n - (k + 1))
        case measure => omega
        case rel =>
          refine ⟨k + 1, by omega, by omega, by go_num, hb.trans (hb2.mono hb.size), (show Hid _ from fun i hi => ?_)⟩
          by_cases e : i = k
          · subst e
            exact HQ.out
          · exact A.out i (by omega)
    · have : k = n := by omega
      subst this
      go_wp2
      go_ret
      exact ⟨-1, rfl, hb, Or.inl ⟨rfl, A.out⟩⟩

/-- EventTold's closure: this hearer has the call's ID. -/
theorem told1_any (q : Nat) (y : Int) (w : World) (hq : w.cell? ⟨q, 0, none⟩ = some (.int .i64 y)) : TellsHr (fun _ => True) 9 #[.pointer (some ⟨q, 0, none⟩)] (fun x => decide (x.id = y)) w := by
  intro x w1 _ hb
  obtain ⟨xp, xd, xo, xs, xi⟩ := x
  have c0 := keepC hq hb
  have hlt := World.block_lt_of_cell? _ _ c0
  dsimp only
  by_cases h : xi = y
  · rw [decide_eq_true h]
    subst h
    go_enter Try.func9, Try.ntmps9
    go_wp2_with fail
    go_ret
    exact ⟨by simp, one_belowS _ _⟩
  · rw [decide_eq_false h]
    have h2 : (xi == y) = false := by simp [h]
    go_enter Try.func9, Try.ntmps9
    go_wp2_with fail
    go_ret
    exact ⟨by simp, one_belowS _ _⟩
end Go.Proofs.Ytebhlcjljdgnkaa

namespace Go.Proofs.Ytebhlcjljdgnkaa
open Go.RowKit
set_option linter.unusedVariables false

set_option maxRecDepth 100000 in
set_option maxHeartbeats 2000000 in
theorem hasHr_any (ha : Option Addr) (hc : Nat) (L : List Hr) (x : Hr) (w : World) (hL : L.length ≤ 9223372036854775807) (hH : HrsAt w ha L) :
    Calls Try.prog 36 #[.slice ha L.length hc, .agg #[.int .i64 x.pl, .bool x.dn, .bool x.on, .bool x.st, .int .i64 x.id]] w fun e w' => ∃ r : Int, e = .returned (.int .i64 r) ∧ Below w.heap.size w w' ∧ ((0 ≤ r) ↔ x ∈ L) := by
  have HH : Hid (HrsAt w ha L) := hH
  have IN : Hid (∀ k, k < L.length → hr L k = x → x ∈ L) := fun k hk h => by rw [← h, hr_elem hk]; exact List.getElem_mem hk
  have OUT : Hid ((∀ k, k < L.length → hr L k ≠ x) → x ∉ L) := fun h hm => by
    obtain ⟨i, hi, e⟩ := List.getElem_of_mem hm
    exact h i hi (by rw [hr_elem hi]; exact e)
  clear hH
  obtain ⟨m, hm⟩ : ∃ m, L.length = m := ⟨_, rfl⟩
  have HM : Hid (L.length = m) := hm
  rw [hm] at hL IN OUT ⊢
  clear hm
  generalize (x ∈ L) = Q at *
  obtain ⟨xp, xd, xo, xs, xi⟩ := x
  dsimp only
  go_enter Try.func36, Try.ntmps36
  go_wp2
  go_loopg [8] m (fun g s8 wr => ∃ k : Nat, k ≤ m ∧ m - k ≤ g ∧ s8 = .int .i64 k ∧ Below (w.heap.size + 1) (w.alloc (.cells #[.int .i64 xp, .bool xd, .bool xo, .bool xs, .int .i64 xi] 41)) wr ∧ Hid (∀ i, i < k → hr L i ≠ ⟨xp, xd, xo, xs, xi⟩))
  case atStart => exact ⟨0, by omega, by omega, rfl, Below.refl _ _, (show Hid _ from fun i hi => absurd hi (Nat.not_lt_zero _))⟩
  case round =>
    obtain ⟨k, hk, hg, rfl, hb, A⟩ := hrel
    have hB0 : Below w.heap.size w wr := ((Below.refl _ _).alloc (Nat.le_refl _) _).trans (hb.mono (by omega))
    have x0 : wr.cell? ⟨w.heap.size, 0, none⟩ = some (.int .i64 xp) := (hb.cell (by simp)).trans (by go_simp)
    have x1 : wr.cell? ⟨w.heap.size, 1, none⟩ = some (.bool xd) := (hb.cell (by simp)).trans (by go_simp)
    have x2 : wr.cell? ⟨w.heap.size, 2, none⟩ = some (.bool xo) := (hb.cell (by simp)).trans (by go_simp)
    have x3 : wr.cell? ⟨w.heap.size, 3, none⟩ = some (.bool xs) := (hb.cell (by simp)).trans (by go_simp)
    have x4 : wr.cell? ⟨w.heap.size, 4, none⟩ = some (.int .i64 xi) := (hb.cell (by simp)).trans (by go_simp)
    by_cases hlt : k < m
    · have hlt2 : (k : Int) < (m : Int) := by omega
      obtain ⟨b, o, rfl, c0, c1, c2, c3, c4⟩ := (HH.out.below hB0) k (by rw [HM.out]; exact hlt)
      generalize hy : hr L k = y at *
      obtain ⟨yp, yd, yo, ys, yi⟩ := y
      dsimp only at c0 c1 c2 c3 c4
      have HY : Hid _ := hy
      clear hy
      by_cases e0 : xp = yp
      · by_cases e1 : xd = yd
        · by_cases e2 : xo = yo
          · by_cases e3 : xs = ys
            · by_cases e4 : xi = yi
              · subst e0
                subst e1
                subst e2
                subst e3
                subst e4
                have Z : Hid _ := IN.out k hlt HY.out
                go_wp2_with fail
                go_quiet (fail)
                go_wp2
                go_ret
                exact ⟨k, rfl, Below.drewNs hB0 _, fun _ => Z.out, fun _ => by omega⟩
              · have ef : (xi == yi) = false := beq_eq_false_iff_ne.2 e4
                have NE : Hid ((⟨yp, yd, yo, ys, yi⟩ : Hr) ≠ ⟨xp, xd, xo, xs, xi⟩) := fun h => e4 (by cases h; rfl)
                subst e0
                subst e1
                subst e2
                subst e3
                go_wp2_with fail
                go_quiet (fail)
                go_wp2
                go_roundg (m - (k + 1))
                case measure => omega
                case rel =>
                  refine ⟨k + 1, by omega, by omega, by go_num, Below.drewNs hb _, (show Hid _ from fun i hi => ?_)⟩
                  by_cases e : i = k
                  · rw [e, HY.out]; exact NE.out
                  · exact A.out i (by omega)
            · have ef : (xs == ys) = false := beq_eq_false_iff_ne.2 e3
              have NE : Hid ((⟨yp, yd, yo, ys, yi⟩ : Hr) ≠ ⟨xp, xd, xo, xs, xi⟩) := fun h => e3 (by cases h; rfl)
              subst e0
              subst e1
              subst e2
              go_wp2_with fail
              go_quiet (fail)
              go_wp2
              go_roundg (m - (k + 1))
              case measure => omega
              case rel =>
                refine ⟨k + 1, by omega, by omega, by go_num, Below.drewNs hb _, (show Hid _ from fun i hi => ?_)⟩
                by_cases e : i = k
                · rw [e, HY.out]; exact NE.out
                · exact A.out i (by omega)
          · have ef : (xo == yo) = false := beq_eq_false_iff_ne.2 e2
            have NE : Hid ((⟨yp, yd, yo, ys, yi⟩ : Hr) ≠ ⟨xp, xd, xo, xs, xi⟩) := fun h => e2 (by cases h; rfl)
            subst e0
            subst e1
            go_wp2_with fail
            go_quiet (fail)
            go_wp2
            go_roundg (m - (k + 1))
            case measure => omega
            case rel =>
              refine ⟨k + 1, by omega, by omega, by go_num, Below.drewNs hb _, (show Hid _ from fun i hi => ?_)⟩
              by_cases e : i = k
              · rw [e, HY.out]; exact NE.out
              · exact A.out i (by omega)
        · have ef : (xd == yd) = false := beq_eq_false_iff_ne.2 e1
          have NE : Hid ((⟨yp, yd, yo, ys, yi⟩ : Hr) ≠ ⟨xp, xd, xo, xs, xi⟩) := fun h => e1 (by cases h; rfl)
          subst e0
          go_wp2_with fail
          go_quiet (fail)
          go_wp2
          go_roundg (m - (k + 1))
          case measure => omega
          case rel =>
            refine ⟨k + 1, by omega, by omega, by go_num, Below.drewNs hb _, (show Hid _ from fun i hi => ?_)⟩
            by_cases e : i = k
            · rw [e, HY.out]; exact NE.out
            · exact A.out i (by omega)
      · have ef : (xp == yp) = false := beq_eq_false_iff_ne.2 e0
        have NE : Hid ((⟨yp, yd, yo, ys, yi⟩ : Hr) ≠ ⟨xp, xd, xo, xs, xi⟩) := fun h => e0 (by cases h; rfl)
        go_wp2_with fail
        go_quiet (fail)
        go_wp2
        go_roundg (m - (k + 1))
        case measure => omega
        case rel =>
          refine ⟨k + 1, by omega, by omega, by go_num, Below.drewNs hb _, (show Hid _ from fun i hi => ?_)⟩
          by_cases e : i = k
          · rw [e, HY.out]; exact NE.out
          · exact A.out i (by omega)
    · have : k = m := by omega
      subst this
      have Z : Hid _ := OUT.out A.out
      go_wp2
      go_ret
      exact ⟨-1, rfl, hB0, fun h => by omega, fun h => absurd h Z.out⟩

set_option maxHeartbeats 800000 in
theorem containsHr_any (ha : Option Addr) (hc : Nat) (L : List Hr) (x : Hr) (w : World) (hL : L.length ≤ 9223372036854775807) (hH : HrsAt w ha L) :
    Calls Try.prog 13 #[.slice ha L.length hc, .agg #[.int .i64 x.pl, .bool x.dn, .bool x.on, .bool x.st, .int .i64 x.id]] w fun e w' => e = .returned (.bool (decide (x ∈ L))) ∧ Below w.heap.size w w' := by
  have D : Hid (∀ o1, Calls _ _ _ _ _) := fun o1 => hasHr_any ha hc L x (w.alloc o1) hL (hH.below (one_belowS _ _))
  clear hH
  obtain ⟨R, hR⟩ : ∃ R, decide (x ∈ L) = R := ⟨_, rfl⟩
  have HR : Hid (R = true ↔ x ∈ L) := by show _ ↔ _; rw [← hR]; simp
  rw [hR]
  clear hR
  generalize (x ∈ L) = Q at *
  generalize L.length = n at *
  obtain ⟨xp, xd, xo, xs, xi⟩ := x
  dsimp only at D ⊢
  go_enter Try.func13, Try.ntmps13
  go_wp2_with fail
  refine Calls.mono (D.out _) ?_
  rintro e w1 ⟨r, rfl, hb, hr1⟩
  have HB : Hid (Below w.heap.size w w1) := (one_belowS w _).trans (hb.mono (by simp))
  have HQ : Hid (0 ≤ r ↔ Q) := hr1
  clear hb hr1
  by_cases h : 0 ≤ r
  · have hd : decide (0 ≤ r) = true := decide_eq_true h
    have HT : Hid (R = true) := HR.out.2 (HQ.out.1 h)
    clear h HQ HR
    go_wp2_with fail
    go_ret
    exact ⟨by rw [HT.out]; rfl, HB.out⟩
  · have hd : decide (0 ≤ r) = false := decide_eq_false h
    have HT : Hid (R = false) := by
      show _ = _
      cases R with
      | true => exact absurd (HQ.out.2 (HR.out.1 rfl)) h
      | false => rfl
    clear h HQ HR
    go_wp2_with fail
    go_ret
    exact ⟨by rw [HT.out]; rfl, HB.out⟩
end Go.Proofs.Ytebhlcjljdgnkaa

namespace Go.Proofs.Ytebhlcjljdgnkaa
open Go.RowKit

theorem big_of {S : List Nd} (h : ∀ i, i < S.length → (nd S i).ks.length ≤ 1000) : Big S := fun i hi => Nat.le_trans (h i hi) (by omega)

theorem grown_low {w w1 : World} {g : Nat} (hb : Below (w.heap.size + 1 + 1) ((w.alloc (.cells #[.slice (some ⟨g, 0, none⟩) 6 6] 24)).alloc (.cells #[.int .i64 0, .int .i64 1, .int .i64 1, .int .i64 1, .int .i64 2, .int .i64 1] 69)) w1) :
    w1.cell? ⟨w.heap.size, 0, none⟩ = some (.slice (some ⟨g, 0, none⟩) 6 6) ∧ w1.cell? ⟨w.heap.size + 1, 0, none⟩ = some (.int .i64 0) ∧ w1.cell? ⟨w.heap.size + 1, 1, none⟩ = some (.int .i64 1) ∧ w1.cell? ⟨w.heap.size + 1, 2, none⟩ = some (.int .i64 1) ∧ w1.cell? ⟨w.heap.size + 1, 3, none⟩ = some (.int .i64 1) := by
  refine ⟨?_, ?_, ?_, ?_, ?_⟩
  · exact (hb.cell (by first | (simp; done) | (simp; omega))).trans (by go_simp)
  · exact (hb.cell (by first | (simp; done) | (simp; omega))).trans (by go_simp)
  · exact (hb.cell (by first | (simp; done) | (simp; omega))).trans (by go_simp)
  · exact (hb.cell (by first | (simp; done) | (simp; omega))).trans (by go_simp)
  · exact (hb.cell (by first | (simp; done) | (simp; omega))).trans (by go_simp)

end Go.Proofs.Ytebhlcjljdgnkaa
