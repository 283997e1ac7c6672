/-
  Searches among calls with any closure; EventStops' closures; at; slices.Clone of hearers of whatever length.
-/
import Derived.Test.YtpnhmpmdeoaieaaQHiHk
import Derived.Test.YtpnhmpmdeoaieaaQHq
import Derived.BigQuiet
import Derived.Test.YtpnhmpmdeoaieaaQHcHfHh
namespace Go.Proofs.Ytpnhmpmdeoaieaa
open Go.RowKit
set_option linter.unusedVariables false

/-- What is asked of a function value that tells yes or no of a hearer. -/
def TellsCl (K : Nat) (caps : Array Value) (p : Cal → Bool) (w : World) : Prop :=
  ∀ (x : Cal) (w1 : World), Below w.heap.size w w1 → Calls Try.prog K (#[.agg #[.int .i64 x.id, .int .i64 x.pl, .int .i64 x.tg, .int .i64 x.ph]] ++ caps) w1 fun e w2 => e = .returned (.bool (p x)) ∧ Below w1.heap.size w1 w2

set_option maxHeartbeats 800000 in
theorem indexCl_any (K : Nat) (caps : Array Value) (p : Cal → Bool) (a : Option Addr) (c : Nat) (L : List Cal) (w : World) (hbig : L.length ≤ 9223372036854775807) (hL : CalsAt w a L)
    (eg : ∀ args w, (callFunc K args).run Try.prog w = .ok (.enter K args) w) (hf : TellsCl K caps p w) :
    Calls Try.prog 22 #[.slice a L.length c, .func (.func K) #[] caps] w fun e w' => ∃ r : Int, e = .returned (.int .i64 r) ∧ Below w.heap.size w w' ∧
      ((r = -1 ∧ ∀ i, i < L.length → p (cal L i) = false) ∨ (∃ k : Nat, k < L.length ∧ r = k ∧ p (cal L k) = true ∧ ∀ i, i < k → p (cal L i) = false)) := by
  have HS : Hid (CalsAt w a L) := hL
  have HF : Hid (TellsCl K caps p w) := hf
  clear hL hf
  generalize hn : L.length = n at *
  have HN : Hid _ := hn
  clear hn
  go_enter Try.func22, Try.ntmps22
  go_wp2
  go_loopg [8] n (fun g s8 wr => ∃ k : Nat, k ≤ n ∧ n - k ≤ g ∧ s8 = .int .i64 k ∧ Below w.heap.size w wr ∧ Hid (∀ i, i < k → p (cal L i) = false))
  case atStart => exact ⟨0, by omega, by omega, rfl, Below.refl _ _, fun i hi => by omega⟩
  case round =>
    obtain ⟨k, hk, hg, rfl, hb, A⟩ := hrel
    by_cases hlt : k < n
    · have hlt2 : (k : Int) < (n : Int) := by omega
      obtain ⟨b, o, rfl, c0, c1, c2, c3⟩ := (HS.out.below hb) k (by rw [HN.out]; exact hlt)
      have hcall := HF.out (cal L k) wr hb
      cases hq : p (cal L k) with
      | true =>
        have HQ : Hid (p (cal L k) = true) := hq
        rw [hq] at hcall
        clear hq
        generalize hx : cal L k = x at hcall c0 c1 c2 c3
        clear hx
        go_wp2_with (go_at_fn K; refine hcall.mono ?_; rintro e w' ⟨rfl, hb2⟩)
        go_ret
        exact ⟨k, rfl, hb.trans (hb2.mono hb.size), Or.inr ⟨k, hlt, rfl, HQ.out, A.out⟩⟩
      | false =>
        have HQ : Hid (p (cal L k) = false) := hq
        rw [hq] at hcall
        clear hq
        generalize hx : cal L k = x at hcall c0 c1 c2 c3
        clear hx
        go_wp2_with (go_at_fn K; refine hcall.mono ?_; rintro e w' ⟨rfl, hb2⟩)
        go_roundg (n - (k + 1))
        case measure => omega
        case rel =>
          refine ⟨k + 1, by omega, by omega, by go_num, hb.trans (hb2.mono hb.size), (show Hid _ from fun i hi => ?_)⟩
          by_cases e : i = k
          · subst e
            exact HQ.out
          · exact A.out i (by omega)
    · have : k = n := by omega
      subst this
      go_wp2
      go_ret
      exact ⟨-1, rfl, hb, Or.inl ⟨rfl, A.out⟩⟩


set_option maxRecDepth 100000 in
set_option maxHeartbeats 1000000 in
theorem stops1_any (q9 q7 ob kk m cap : Nat) (y : Int) (w : World) (h9 : w.cell? ⟨q9, 0, none⟩ = some (.slice (some ⟨ob, 0, none⟩) m cap)) (h7 : w.cell? ⟨q7, 0, none⟩ = some (.int .i64 (kk : Int))) (hk : kk < m) (ho : w.cell? ⟨ob, kk * 5 + 4, none⟩ = some (.int .i64 y)) : TellsCl 23 #[.pointer (some ⟨q9, 0, none⟩), .pointer (some ⟨q7, 0, none⟩)] (fun x => decide (x.id = y)) w := by
  intro x w1 hb
  obtain ⟨x0, x1, x2, x3⟩ := x
  have c9 := keepC h9 hb
  have c7 := keepC h7 hb
  have co := keepC ho hb
  have l9 := World.block_lt_of_cell? _ _ c9
  have l7 := World.block_lt_of_cell? _ _ c7
  have lo := World.block_lt_of_cell? _ _ co
  have hk2 : (kk : Int) < (m : Int) := by omega
  dsimp only
  clear hb h9 h7 ho
  by_cases h : x0 = y
  · rw [decide_eq_true h]
    subst h
    go_enter Try.func23, Try.ntmps23
    go_wp2_with fail
    go_quiet (fail)
    go_wp2_with fail
    go_ret
    exact ⟨by simp, Below.drewNs (one_belowS _ _) _⟩
  · rw [decide_eq_false h]
    have h2 : (x0 == y) = false := by simp [h]
    go_enter Try.func23, Try.ntmps23
    go_wp2_with fail
    go_quiet (fail)
    go_wp2_with fail
    go_ret
    exact ⟨by simp, Below.drewNs (one_belowS _ _) _⟩

set_option maxRecDepth 100000 in
set_option maxHeartbeats 1000000 in
theorem stops2_any (q11 q18 cb co j m cap : Nat) (y : Int) (w : World) (h9 : w.cell? ⟨q11, 0, none⟩ = some (.slice (some ⟨cb, co, none⟩) m cap)) (h7 : w.cell? ⟨q18, 0, none⟩ = some (.int .i64 (j : Int))) (hk : j < m) (ho : w.cell? ⟨cb, co + j * 4, none⟩ = some (.int .i64 y)) : TellsHr (fun _ => True) 24 #[.pointer (some ⟨q11, 0, none⟩), .pointer (some ⟨q18, 0, none⟩)] (fun x => decide (x.id = y)) w := by
  intro x w1 _ hb
  obtain ⟨xp, xd, xo, xs, xi⟩ := x
  have c9 := keepC h9 hb
  have c7 := keepC h7 hb
  have cx := keepC ho hb
  have l9 := World.block_lt_of_cell? _ _ c9
  have l7 := World.block_lt_of_cell? _ _ c7
  have lo := World.block_lt_of_cell? _ _ cx
  have hk2 : (j : Int) < (m : Int) := by omega
  dsimp only
  clear hb h9 h7 ho
  by_cases h : xi = y
  · rw [decide_eq_true h]
    subst h
    go_enter Try.func24, Try.ntmps24
    go_wp2_with fail
    go_quiet (fail)
    go_wp2_with fail
    go_ret
    exact ⟨by simp, Below.drewNs (one_belowS _ _) _⟩
  · rw [decide_eq_false h]
    have h2 : (xi == y) = false := by simp [h]
    go_enter Try.func24, Try.ntmps24
    go_wp2_with fail
    go_quiet (fail)
    go_wp2_with fail
    go_ret
    exact ⟨by simp, Below.drewNs (one_belowS _ _) _⟩

theorem tmod_bdE (k : Int) (n : Nat) (hn : 0 < n) : -(n : Int) < k.tmod n ∧ k.tmod n < n := by
  have h1 := Int.tmod_lt_of_pos k (b := (n : Int)) (by omega)
  have h2 := Int.tmod_lt_of_pos (-k) (b := (n : Int)) (by omega)
  rw [Int.neg_tmod] at h2
  omega

set_option maxHeartbeats 400000 in
theorem at_inE (k : Int) (n : Nat) (hn : 0 < n) (hn' : n ≤ 9000000000000000000) : ∃ p : Nat, p < n ∧ ∀ w : World,
    Calls Try.prog 20 #[.int .i64 k, .int .i64 n] w fun e w' => e = .returned (.int .i64 (p : Int)) ∧ w' = w := by
  obtain ⟨hb1, hb2⟩ := tmod_bdE k n hn
  generalize hr : k.tmod (n : Int) = r at hb1 hb2
  by_cases h : r < 0
  · obtain ⟨p, hp⟩ : ∃ p : Nat, (p : Int) = r + n := ⟨(r + n).toNat, by omega⟩
    refine ⟨p, by omega, fun w => ?_⟩
    have HP : Hid ((p : Int) = r + n) := hp
    clear hp
    go_enter Try.func20, Try.ntmps20
    go_wp2
    go_ret
    exact ⟨by rw [HP.out]; rfl, rfl⟩
  · obtain ⟨p, hp⟩ : ∃ p : Nat, (p : Int) = r := ⟨r.toNat, by omega⟩
    refine ⟨p, by omega, fun w => ?_⟩
    have HP : Hid ((p : Int) = r) := hp
    clear hp
    go_enter Try.func20, Try.ntmps20
    go_wp2
    go_ret
    exact ⟨by rw [HP.out]; rfl, rfl⟩
end Go.Proofs.Ytpnhmpmdeoaieaa

namespace Go.Proofs.Ytpnhmpmdeoaieaa

def stopH (h : Hr) (b : Bool) : Hr := { h with st := b }

theorem hear_other {A B : List Hr} {h : Hr} {b : Bool} {x : Int × Bool} (hx : (h.pl, h.dn) ≠ x) : hearF (A ++ stopH h b :: B) x = hearF A x ++ hearF B x := by
  unfold hearF
  rw [List.filter_append, List.filter_cons_of_neg]
  intro e
  apply hx
  unfold atSpot stopH at e
  obtain ⟨p, d⟩ := x
  simp at e
  rw [e.1, e.2]

theorem hear_same {A B : List Hr} {h : Hr} {b : Bool} : hearF (A ++ stopH h b :: B) (h.pl, h.dn) = hearF A (h.pl, h.dn) ++ stopH h b :: hearF B (h.pl, h.dn) := by
  unfold hearF
  rw [List.filter_append, List.filter_cons_of_pos]
  unfold atSpot stopH
  simp

/-- With and without the stop: the same, and nobody at that spot is told; or the same up to that spot, and the one goes no further. -/
theorem stop_parts (A B : List Hr) (h : Hr) (X : List (Int × Bool)) :
    (toldF (A ++ stopH h true :: B) X = toldF (A ++ stopH h false :: B) X ∧ ∀ g ∈ toldF (A ++ stopH h true :: B) X, (g.pl, g.dn) ≠ (h.pl, h.dn)) ∨
    (∃ P Y, toldF (A ++ stopH h true :: B) X = P ++ hearF (A ++ stopH h true :: B) (h.pl, h.dn) ∧ toldF (A ++ stopH h false :: B) X = P ++ hearF (A ++ stopH h false :: B) (h.pl, h.dn) ++ Y ∧ ∀ g ∈ P, (g.pl, g.dn) ≠ (h.pl, h.dn)) := by
  induction X with
  | nil => exact Or.inl ⟨rfl, fun g hg => by simp [toldF] at hg⟩
  | cons x t ih =>
    by_cases hx : (h.pl, h.dn) = x
    · subst hx
      refine Or.inr ⟨[], if (hearF (A ++ stopH h false :: B) (h.pl, h.dn)).any Hr.st then [] else toldF (A ++ stopH h false :: B) t, ?_, ?_, fun g hg => by simp at hg⟩
      · rw [toldF, if_pos]
        · simp
        · rw [hear_same]
          simp [stopH]
      · rw [toldF]
        simp
    · have e1 : hearF (A ++ stopH h true :: B) x = hearF A x ++ hearF B x := hear_other hx
      have e2 : hearF (A ++ stopH h false :: B) x = hearF A x ++ hearF B x := hear_other hx
      have far : ∀ g ∈ hearF A x ++ hearF B x, (g.pl, g.dn) ≠ (h.pl, h.dn) := fun g hg => by
        rw [List.mem_append] at hg
        have e : (g.pl, g.dn) = x := hg.elim (fun hg => (hear_mem.1 hg).2) (fun hg => (hear_mem.1 hg).2)
        rw [e]
        exact fun e => hx e.symm
      rw [toldF, toldF, e1, e2]
      generalize hearF A x ++ hearF B x = q at *
      by_cases hq : q.any Hr.st = true
      · rw [if_pos hq, if_pos hq]
        exact Or.inl ⟨rfl, fun g hg => far g (by simpa using hg)⟩
      · rw [if_neg hq, if_neg hq]
        rcases ih with ⟨h1, h2⟩ | ⟨P, Y, h1, h2, h3⟩
        · refine Or.inl ⟨by rw [h1], fun g hg => ?_⟩
          rw [List.mem_append] at hg
          exact hg.elim (far g) (h2 g)
        · refine Or.inr ⟨q ++ P, Y, by rw [h1]; simp, by rw [h2]; simp, fun g hg => ?_⟩
          rw [List.mem_append] at hg
          exact hg.elim (far g) (h3 g)

theorem call_stop (S : List Nd) (k : Nat) (h : Hr) (b : Bool) : callH S k (stopH h b) = callH S k h := rfl
theorem hear_calls (S : List Nd) (k : Nat) (A B : List Hr) (h : Hr) (b : Bool) : (hearF (A ++ stopH h b :: B) (h.pl, h.dn)).map (callH S k) = (hearF (A ++ h :: B) (h.pl, h.dn)).map (callH S k) := by
  have e : A ++ h :: B = A ++ stopH h h.st :: B := rfl
  rw [hear_same, e, hear_same]
  simp [call_stop]
end Go.Proofs.Ytpnhmpmdeoaieaa
