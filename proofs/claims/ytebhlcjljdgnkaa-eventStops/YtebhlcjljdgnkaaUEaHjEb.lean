/-
  Searches among calls with any closure; EventStops' closures; at; slices.Clone of hearers of whatever length.
-/
import Derived.Test.YtebhlcjljdgnkaaUHgHhHiTo
import Derived.Test.YtebhlcjljdgnkaaUHq
import Derived.BigQuiet
import Derived.Test.YtebhlcjljdgnkaaUZpRdRbRhTmHc
import Derived.Test.YtebhlcjljdgnkaaUHvHwHe
namespace Go.Proofs.Ytebhlcjljdgnkaa
open Go.RowKit
set_option linter.unusedVariables false

/-- What is asked of a function value that tells yes or no of a hearer. -/
def TellsCl (K : Nat) (caps : Array Value) (p : Cal → Bool) (w : World) : Prop :=
  ∀ (x : Cal) (w1 : World), Below w.heap.size w w1 → Calls Try.prog K (#[.agg #[.int .i64 x.id, .int .i64 x.pl, .int .i64 x.tg, .int .i64 x.ph]] ++ caps) w1 fun e w2 => e = .returned (.bool (p x)) ∧ Below w1.heap.size w1 w2

set_option maxHeartbeats 800000 in
theorem indexCl_any (K : Nat) (caps : Array Value) (p : Cal → Bool) (a : Option Addr) (c : Nat) (L : List Cal) (w : World) (hbig : L.length ≤ 9223372036854775807) (hL : CalsAt w a L)
    (eg : ∀ args w, (callFunc K args).run Try.prog w = .ok (.enter K args) w) (hf : TellsCl K caps p w) :
    Calls Try.prog 17 #[.slice a L.length c, .func (.func K) #[] caps] w fun e w' => ∃ r : Int, e = .returned (.int .i64 r) ∧ Below w.heap.size w w' ∧
      ((r = -1 ∧ ∀ i, i < L.length → p (cal L i) = false) ∨ (∃ k : Nat, k < L.length ∧ r = k ∧ p (cal L k) = true ∧ ∀ i, i < k → p (cal L i) = false)) := by
  have HS : Hid (CalsAt w a L) := hL
  have HF : Hid (TellsCl K caps p w) := hf
  clear hL hf
  generalize hn : L.length = n at *
  have HN : Hid _ := hn
  clear hn
  go_enter Try.func17, Try.ntmps17
  go_wp2
  go_loopg [8] n (fun g s8 wr => ∃ k : Nat, k ≤ n ∧ n - k ≤ g ∧ s8 = .int .i64 k ∧ Below w.heap.size w wr ∧ Hid (∀ i, i < k → p (cal L i) = false))
  case atStart => exact ⟨0, by omega, by omega, rfl, Below.refl _ _, fun i hi => by omega⟩
  case round =>
    obtain ⟨k, hk, hg, rfl, hb, A⟩ := hrel
    by_cases hlt : k < n
    · have hlt2 : (k : Int) < (n : Int) := by omega
      obtain ⟨b, o, rfl, c0, c1, c2, c3⟩ := (HS.out.below hb) k (by rw [HN.out]; exact hlt)
      have hcall := HF.out (cal L k) wr hb
      cases hq : p (cal L k) with
      | true =>
        have HQ : Hid (p (cal L k) = true) := hq
        rw [hq] at hcall
        clear hq
        generalize hx : cal L k = x at hcall c0 c1 c2 c3
        clear hx
        go_wp2_with (go_at_fn K; refine hcall.mono ?_; rintro e w' ⟨rfl, hb2⟩)
        go_ret
        exact ⟨k, rfl, hb.trans (hb2.mono hb.size), Or.inr ⟨k, hlt, rfl, HQ.out, A.out⟩⟩
      | false =>
        have HQ : Hid (p (cal L k) = false) := hq
        rw [hq] at hcall
        clear hq
        generalize hx : cal L k = x at hcall c0 c1 c2 c3
        clear hx
        go_wp2_with (go_at_fn K; refine hcall.mono ?_; rintro e w' ⟨rfl, hb2⟩)
        go_roundg (n - (k + 1))
        case measure => omega
        case rel =>
          refine ⟨k + 1, by omega, by omega, by go_num, hb.trans (hb2.mono hb.size), (show Hid _ from fun i hi => ?_)⟩
          by_cases e : i = k
          · subst e
            exact HQ.out
          · exact A.out i (by omega)
    · have : k = n := by omega
      subst this
      go_wp2
      go_ret
      exact ⟨-1, rfl, hb, Or.inl ⟨rfl, A.out⟩⟩


set_option maxRecDepth 100000 in
set_option maxHeartbeats 1000000 in
theorem stops1_any (q9 q7 ob kk m cap : Nat) (y : Int) (w : World) (h9 : w.cell? ⟨q9, 0, none⟩ = some (.slice (some ⟨ob, 0, none⟩) m cap)) (h7 : w.cell? ⟨q7, 0, none⟩ = some (.int .i64 (kk : Int))) (hk : kk < m) (ho : w.cell? ⟨ob, kk * 5 + 4, none⟩ = some (.int .i64 y)) : TellsCl 18 #[.pointer (some ⟨q9, 0, none⟩), .pointer (some ⟨q7, 0, none⟩)] (fun x => decide (x.id = y)) w := by
  intro x w1 hb
  obtain ⟨x0, x1, x2, x3⟩ := x
  have c9 := keepC h9 hb
  have c7 := keepC h7 hb
  have co := keepC ho hb
  have l9 := World.block_lt_of_cell? _ _ c9
  have l7 := World.block_lt_of_cell? _ _ c7
  have lo := World.block_lt_of_cell? _ _ co
  have hk2 : (kk : Int) < (m : Int) := by omega
  dsimp only
  clear hb h9 h7 ho
  by_cases h : x0 = y
  · rw [decide_eq_true h]
    subst h
    go_enter Try.func18, Try.ntmps18
    go_wp2_with fail
    go_quiet (fail)
    go_wp2_with fail
    go_ret
    exact ⟨by simp, Below.drewNs (one_belowS _ _) _⟩
  · rw [decide_eq_false h]
    have h2 : (x0 == y) = false := by simp [h]
    go_enter Try.func18, Try.ntmps18
    go_wp2_with fail
    go_quiet (fail)
    go_wp2_with fail
    go_ret
    exact ⟨by simp, Below.drewNs (one_belowS _ _) _⟩

set_option maxRecDepth 100000 in
set_option maxHeartbeats 1000000 in
theorem stops2_any (q11 q18 cb co j m cap : Nat) (y : Int) (w : World) (h9 : w.cell? ⟨q11, 0, none⟩ = some (.slice (some ⟨cb, co, none⟩) m cap)) (h7 : w.cell? ⟨q18, 0, none⟩ = some (.int .i64 (j : Int))) (hk : j < m) (ho : w.cell? ⟨cb, co + j * 4, none⟩ = some (.int .i64 y)) : TellsHr (fun _ => True) 19 #[.pointer (some ⟨q11, 0, none⟩), .pointer (some ⟨q18, 0, none⟩)] (fun x => decide (x.id = y)) w := by
  intro x w1 _ hb
  obtain ⟨xp, xd, xo, xs, xi⟩ := x
  have c9 := keepC h9 hb
  have c7 := keepC h7 hb
  have cx := keepC ho hb
  have l9 := World.block_lt_of_cell? _ _ c9
  have l7 := World.block_lt_of_cell? _ _ c7
  have lo := World.block_lt_of_cell? _ _ cx
  have hk2 : (j : Int) < (m : Int) := by omega
  dsimp only
  clear hb h9 h7 ho
  by_cases h : xi = y
  · rw [decide_eq_true h]
    subst h
    go_enter Try.func19, Try.ntmps19
    go_wp2_with fail
    go_quiet (fail)
    go_wp2_with fail
    go_ret
    exact ⟨by simp, Below.drewNs (one_belowS _ _) _⟩
  · rw [decide_eq_false h]
    have h2 : (xi == y) = false := by simp [h]
    go_enter Try.func19, Try.ntmps19
    go_wp2_with fail
    go_quiet (fail)
    go_wp2_with fail
    go_ret
    exact ⟨by simp, Below.drewNs (one_belowS _ _) _⟩

theorem tmod_bdE (k : Int) (n : Nat) (hn : 0 < n) : -(n : Int) < k.tmod n ∧ k.tmod n < n := by
  have h1 := Int.tmod_lt_of_pos k (b := (n : Int)) (by omega)
  have h2 := Int.tmod_lt_of_pos (-k) (b := (n : Int)) (by omega)
  rw [Int.neg_tmod] at h2
  omega

set_option maxHeartbeats 400000 in
theorem at_inE (k : Int) (n : Nat) (hn : 0 < n) (hn' : n ≤ 9000000000000000000) : ∃ p : Nat, p < n ∧ ∀ w : World,
    Calls Try.prog 14 #[.int .i64 k, .int .i64 n] w fun e w' => e = .returned (.int .i64 (p : Int)) ∧ w' = w := by
  obtain ⟨hb1, hb2⟩ := tmod_bdE k n hn
  generalize hr : k.tmod (n : Int) = r at hb1 hb2
  by_cases h : r < 0
  · obtain ⟨p, hp⟩ : ∃ p : Nat, (p : Int) = r + n := ⟨(r + n).toNat, by omega⟩
    refine ⟨p, by omega, fun w => ?_⟩
    have HP : Hid ((p : Int) = r + n) := hp
    clear hp
    go_enter Try.func14, Try.ntmps14
    go_wp2
    go_ret
    exact ⟨by rw [HP.out]; rfl, rfl⟩
  · obtain ⟨p, hp⟩ : ∃ p : Nat, (p : Int) = r := ⟨r.toNat, by omega⟩
    refine ⟨p, by omega, fun w => ?_⟩
    have HP : Hid ((p : Int) = r) := hp
    clear hp
    go_enter Try.func14, Try.ntmps14
    go_wp2
    go_ret
    exact ⟨by rw [HP.out]; rfl, rfl⟩
end Go.Proofs.Ytebhlcjljdgnkaa

namespace Go.Proofs.Ytebhlcjljdgnkaa

def stopH (h : Hr) (b : Bool) : Hr := { h with st := b }

theorem hear_other {A B : List Hr} {h : Hr} {b : Bool} {x : Int × Bool} (hx : (h.pl, h.dn) ≠ x) : hearF (A ++ stopH h b :: B) x = hearF A x ++ hearF B x := by
  unfold hearF
  rw [List.filter_append, List.filter_cons_of_neg]
  intro e
  apply hx
  unfold atSpot stopH at e
  obtain ⟨p, d⟩ := x
  simp at e
  rw [e.1, e.2]

theorem hear_same {A B : List Hr} {h : Hr} {b : Bool} : hearF (A ++ stopH h b :: B) (h.pl, h.dn) = hearF A (h.pl, h.dn) ++ stopH h b :: hearF B (h.pl, h.dn) := by
  unfold hearF
  rw [List.filter_append, List.filter_cons_of_pos]
  unfold atSpot stopH
  simp

/-- With and without the stop: the same, and nobody at that spot is told; or the same up to that spot, and the one goes no further. -/
theorem stop_parts (A B : List Hr) (h : Hr) (X : List (Int × Bool)) :
    (toldF (A ++ stopH h true :: B) X = toldF (A ++ stopH h false :: B) X ∧ ∀ g ∈ toldF (A ++ stopH h true :: B) X, (g.pl, g.dn) ≠ (h.pl, h.dn)) ∨
    (∃ P Y, toldF (A ++ stopH h true :: B) X = P ++ hearF (A ++ stopH h true :: B) (h.pl, h.dn) ∧ toldF (A ++ stopH h false :: B) X = P ++ hearF (A ++ stopH h false :: B) (h.pl, h.dn) ++ Y ∧ ∀ g ∈ P, (g.pl, g.dn) ≠ (h.pl, h.dn)) := by
  induction X with
  | nil => exact Or.inl ⟨rfl, fun g hg => by simp [toldF] at hg⟩
  | cons x t ih =>
    by_cases hx : (h.pl, h.dn) = x
    · subst hx
      refine Or.inr ⟨[], if (hearF (A ++ stopH h false :: B) (h.pl, h.dn)).any Hr.st then [] else toldF (A ++ stopH h false :: B) t, ?_, ?_, fun g hg => by simp at hg⟩
      · rw [toldF, if_pos]
        · simp
        · rw [hear_same]
          simp [stopH]
      · rw [toldF]
        simp
    · have e1 : hearF (A ++ stopH h true :: B) x = hearF A x ++ hearF B x := hear_other hx
      have e2 : hearF (A ++ stopH h false :: B) x = hearF A x ++ hearF B x := hear_other hx
      have far : ∀ g ∈ hearF A x ++ hearF B x, (g.pl, g.dn) ≠ (h.pl, h.dn) := fun g hg => by
        rw [List.mem_append] at hg
        have e : (g.pl, g.dn) = x := hg.elim (fun hg => (hear_mem.1 hg).2) (fun hg => (hear_mem.1 hg).2)
        rw [e]
        exact fun e => hx e.symm
      rw [toldF, toldF, e1, e2]
      generalize hearF A x ++ hearF B x = q at *
      by_cases hq : q.any Hr.st = true
      · rw [if_pos hq, if_pos hq]
        exact Or.inl ⟨rfl, fun g hg => far g (by simpa using hg)⟩
      · rw [if_neg hq, if_neg hq]
        rcases ih with ⟨h1, h2⟩ | ⟨P, Y, h1, h2, h3⟩
        · refine Or.inl ⟨by rw [h1], fun g hg => ?_⟩
          rw [List.mem_append] at hg
          exact hg.elim (far g) (h2 g)
        · refine Or.inr ⟨q ++ P, Y, by rw [h1]; simp, by rw [h2]; simp, fun g hg => ?_⟩
          rw [List.mem_append] at hg
          exact hg.elim (far g) (h3 g)

theorem call_stop (S : List Nd) (k : Nat) (h : Hr) (b : Bool) : callH S k (stopH h b) = callH S k h := rfl
theorem hear_calls (S : List Nd) (k : Nat) (A B : List Hr) (h : Hr) (b : Bool) : (hearF (A ++ stopH h b :: B) (h.pl, h.dn)).map (callH S k) = (hearF (A ++ h :: B) (h.pl, h.dn)).map (callH S k) := by
  have e : A ++ h :: B = A ++ stopH h h.st :: B := rfl
  rw [hear_same, e, hear_same]
  simp [call_stop]
end Go.Proofs.Ytebhlcjljdgnkaa

namespace Go.Proofs.Ytebhlcjljdgnkaa
open Go.RowKit
set_option linter.unusedVariables false

def setS (L : List Hr) (kk : Nat) (b : Bool) : List Hr := L.set kk (stopH (hr L kk) b)
theorem setS_len (L : List Hr) (kk : Nat) (b : Bool) : (setS L kk b).length = L.length := by unfold setS; simp
theorem setS_parts {L : List Hr} {kk : Nat} (b : Bool) (hk : kk < L.length) : setS L kk b = L.take kk ++ stopH (hr L kk) b :: L.drop (kk + 1) := by
  unfold setS
  rw [List.set_eq_take_append_cons_drop, if_pos hk]
theorem parts_of {L : List Hr} {kk : Nat} (hk : kk < L.length) : L = L.take kk ++ hr L kk :: L.drop (kk + 1) := by
  rw [hr_elem hk, ← List.drop_eq_getElem_cons hk, List.take_append_drop]
theorem setS_map {β : Type} {L : List Hr} {kk : Nat} (b : Bool) (hk : kk < L.length) (f : Hr → β) (hf : ∀ h b, f (stopH h b) = f h) : (setS L kk b).map f = L.map f := by
  rw [setS_parts b hk, List.map_append, List.map_cons, hf]
  conv => rhs; rw [parts_of hk, List.map_append, List.map_cons]
theorem hr_map {β : Type} {M L : List Hr} {f : Hr → β} (e : M.map f = L.map f) (i : Nat) : f (hr M i) = f (hr L i) := by
  have h := congrArg (fun l => l[i]?) e
  simp only [List.getElem?_map] at h
  unfold hr
  rw [List.getD_eq_getElem?_getD, List.getD_eq_getElem?_getD]
  cases h1 : M[i]? with
  | none =>
    cases h2 : L[i]? with
    | none => rfl
    | some y => rw [h1, h2] at h; simp at h
  | some x =>
    cases h2 : L[i]? with
    | none => rw [h1, h2] at h; simp at h
    | some y => rw [h1, h2] at h; simpa using h
theorem hgo_congr (N : Int) : ∀ (L L' : List Hr) (seen : List Int), L.map (fun h => (h.pl, h.id)) = L'.map (fun h => (h.pl, h.id)) → hgo N seen L = hgo N seen L'
  | [], [], _, _ => rfl
  | [], _ :: _, _, e => by simp at e
  | _ :: _, [], _, e => by simp at e
  | x :: t, x' :: t', seen, e => by
    simp only [List.map_cons, List.cons.injEq, Prod.mk.injEq] at e
    obtain ⟨⟨e1, e2⟩, e3⟩ := e
    rw [hgo, hgo, e1, e2, hgo_congr N t t' _ e3]
theorem hcheck_set {L : List Hr} {kk : Nat} (b : Bool) (hk : kk < L.length) (N : Int) : hcheckE (setS L kk b) N = hcheckE L N := by
  unfold hcheckE hErr idsF
  rw [setS_len]
  simp only [List.take_zero, List.drop_zero, List.map_nil]
  rw [hgo_congr N (setS L kk b) L [] (setS_map b hk _ (fun _ _ => rfl))]
theorem big_set {L : List Hr} {kk : Nat} (b : Bool) (hk : kk < L.length) (h : BigH L) : BigH (setS L kk b) := fun i hi => by
  rw [setS_len] at hi
  rw [hr_map (setS_map b hk Hr.id (fun _ _ => rfl)) i]
  exact h i hi

theorem told_idx {L : List Hr} {kk : Nat} {b : Bool} (hk : kk < L.length) {g : Hr} (hg : g ∈ setS L kk b) : ∃ m, m < L.length ∧ (hr L m).id = g.id ∧ (hr L m).dn = g.dn := by
  obtain ⟨m, hm, e⟩ := List.getElem_of_mem hg
  have hm' : m < L.length := by rw [setS_len] at hm; exact hm
  have e1 : hr (setS L kk b) m = g := by rw [hr_elem hm]; exact e
  refine ⟨m, hm', ?_, ?_⟩
  · rw [← e1, hr_map (setS_map b hk Hr.id (fun _ _ => rfl)) m]
  · rw [← e1, hr_map (setS_map b hk Hr.dn (fun _ _ => rfl)) m]
theorem told_dn {L : List Hr} {kk : Nat} {b : Bool} (hnd : (L.map Hr.id).Nodup) (hk : kk < L.length) {g : Hr} (hg : g ∈ setS L kk b) {n : Nat} (hn : n < L.length) (he : (hr L n).id = g.id) : (hr L n).dn = g.dn := by
  obtain ⟨m, hm, e1, e2⟩ := told_idx hk hg
  have : hr L n = hr L m := one_id hnd _ (by rw [hr_elem hn]; exact List.getElem_mem hn) _ (by rw [hr_elem hm]; exact List.getElem_mem hm) (by rw [he, e1])
  rw [this, e2]

structure StopOk (S : List Nd) (k : Nat) (L T1 T0 : List Hr) (h : Hr) : Prop where
  len : (T1.map (callH S k)).length ≤ (T0.map (callH S k)).length
  pre : T1.map (callH S k) = (T0.map (callH S k)).take (T1.map (callH S k)).length
  eq : (∀ g ∈ T1, g.id ≠ h.id) → T1.map (callH S k) = T0.map (callH S k)
  rest : ∀ i j, i < j → j < T1.length → (hr T1 i).id = h.id → (hr T1 j).pl = (hr T1 i).pl ∧ (hr T1 j).dn = h.dn

theorem stop_facts (S : List Nd) (k : Nat) {L : List Hr} {kk : Nat} (hk : kk < L.length) (hnd : (L.map Hr.id).Nodup) (X : List (Int × Bool)) : StopOk S k L (toldF (setS L kk true) X) (toldF (setS L kk false) X) (hr L kk) := by
  have hnd1 : ((setS L kk true).map Hr.id).Nodup := by rw [setS_map true hk Hr.id (fun _ _ => rfl)]; exact hnd
  have hm0 : stopH (hr L kk) true ∈ setS L kk true := by rw [setS_parts true hk]; simp
  have same : ∀ g ∈ toldF (setS L kk true) X, g.id = (hr L kk).id → g = stopH (hr L kk) true := fun g hg e => one_id hnd1 g (told_mem hg).1 _ hm0 e
  have hs := stop_parts (L.take kk) (L.drop (kk + 1)) (hr L kk) X
  have e1 := hear_calls S k (L.take kk) (L.drop (kk + 1)) (hr L kk) true
  have e0 := hear_calls S k (L.take kk) (L.drop (kk + 1)) (hr L kk) false
  rw [← setS_parts true hk, ← setS_parts false hk] at hs
  rw [← setS_parts true hk] at e1
  rw [← setS_parts false hk] at e0
  generalize hr L kk = h at *
  rcases hs with ⟨h1, h2⟩ | ⟨P, Y, h1, h2, h3⟩
  · rw [← h1]
    refine ⟨Nat.le_refl _, by rw [List.take_length], fun _ => rfl, fun i j hij hj hid => ?_⟩
    have hi : i < (toldF (setS L kk true) X).length := by omega
    have hm : hr (toldF (setS L kk true) X) i ∈ toldF (setS L kk true) X := by rw [hr_elem hi]; exact List.getElem_mem hi
    have := same _ hm hid
    exact absurd (by rw [this]; rfl) (h2 _ hm)
  · have hmem : stopH h true ∈ toldF (setS L kk true) X := by
      rw [h1]
      exact List.mem_append_right _ (hear_mem.2 ⟨hm0, rfl⟩)
    have a1 : (toldF (setS L kk true) X).map (callH S k) = P.map (callH S k) ++ (hearF (L.take kk ++ h :: L.drop (kk + 1)) (h.pl, h.dn)).map (callH S k) := by rw [h1, List.map_append, e1]
    have a0 : (toldF (setS L kk false) X).map (callH S k) = P.map (callH S k) ++ (hearF (L.take kk ++ h :: L.drop (kk + 1)) (h.pl, h.dn)).map (callH S k) ++ Y.map (callH S k) := by rw [h2, List.map_append, List.map_append, e0]
    refine ⟨?_, ?_, fun hno => absurd (rfl : (stopH h true).id = h.id) (hno (stopH h true) hmem), fun i j hij hj hid => ?_⟩
    · rw [a0, ← a1, List.length_append]
      omega
    · rw [a0, ← a1, List.take_left]
    · have hi : i < (toldF (setS L kk true) X).length := by omega
      have hm : hr (toldF (setS L kk true) X) i ∈ toldF (setS L kk true) X := by rw [hr_elem hi]; exact List.getElem_mem hi
      have es := same _ hm hid
      rw [es]
      have hPi : P.length ≤ i := by
        rcases Nat.lt_or_ge i P.length with hlt | hge
        · exfalso
          have hp : hr (toldF (setS L kk true) X) i ∈ P := by
            rw [hr_elem hi]
            simp only [h1]
            rw [List.getElem_append_left hlt]
            exact List.getElem_mem hlt
          exact h3 _ hp (by rw [es]; rfl)
        · exact hge
      have hq : hr (toldF (setS L kk true) X) j ∈ hearF (setS L kk true) (h.pl, h.dn) := by
        rw [hr_elem hj]
        simp only [h1]
        rw [List.getElem_append_right (by omega)]
        exact List.getElem_mem _
      have e := (hear_mem.1 hq).2
      simp only [Prod.mk.injEq] at e
      exact ⟨e.1, e.2⟩

set_option maxRecDepth 100000 in
set_option maxHeartbeats 1000000 in
theorem cloneHr_big (a : Option Addr) (c : Nat) (L : List Hr) (w : World) (hN : L.length * 24 ≤ 140737488355328) (hL : HrsAt w a L) (ha : a = none → L.length = 0) :
    Calls Try.prog 15 #[.slice a L.length c] w fun e w' => ∃ v2, e = .returned v2 ∧ Below w.heap.size w w' ∧ w'.ownsRow w.heap.size 41 5 v2 L.length (hcells L) := by
  obtain ⟨i0, hi0, hz0, hz1, hz2⟩ := info_parts infoHearer
  cases a with
  | none =>
    have h0 := ha rfl
    have e : L = [] := List.eq_nil_of_length_eq_zero h0
    subst e
    have hnil := fun (W : World) n c n' c' => Lib.run_eql_slice_nil (P := Try.prog) W 25 41 none n c n' c' Try.underlying25
    have FIN : Hid (w.ownsRow w.heap.size 41 5 (.slice none 0 0) 0 []) := World.ownsRow_nil _ _ _ _
    clear hL ha h0
    go_enter Try.func15, Try.ntmps15
    go_wp2_with fail
    go_ret
    exact ⟨_, rfl, Below.refl _ _, FIN.out⟩
  | some ad =>
    obtain ⟨ab, ao, asp⟩ := ad
    have hsp : 0 < L.length → asp = none := fun h => by
      obtain ⟨b, o, e, _⟩ := hL 0 h
      cases e
      rfl
    have hnil := fun (W : World) n c n' c' => Lib.run_eql_slice_nil (P := Try.prog) W 25 41 (some ⟨ab, ao, asp⟩) n c n' c' Try.underlying25
    have NEW : Hid (∀ o1, ∀ j u, (hcells L)[j]? = some u → (w.alloc o1).cell? ((⟨ab, ao, asp⟩ : Addr).add j) = some u) := fun o1 j u hj => by
      have hlt : j < L.length * 5 := by
        rcases Nat.lt_or_ge j (L.length * 5) with h | h
        · exact h
        · rw [List.getElem?_eq_none (by rw [hcells_len]; exact h)] at hj; cases hj
      have e := hsp (by omega)
      subst e
      obtain ⟨b, o, e, c0, c1, c2, c3, c4⟩ := hL (j / 5) (by omega)
      cases e
      have hj2 : (hcell (hr L (j / 5)))[j % 5]? = some u := by
        rw [← hcells_at L (i := j / 5) (j := j % 5) (by omega) (by omega), show j / 5 * 5 + j % 5 = j by omega]
        exact hj
      rw [Addr.add_lit]
      refine keepC ?_ (one_belowS w o1)
      have e5 : j % 5 = 0 ∨ j % 5 = 1 ∨ j % 5 = 2 ∨ j % 5 = 3 ∨ j % 5 = 4 := by omega
      unfold hcell at hj2
      rcases e5 with e | e | e | e | e
      · rw [e] at hj2; simp at hj2; subst hj2; rw [show ao + j = ao + j / 5 * 5 by omega]; exact c0
      · rw [e] at hj2; simp at hj2; subst hj2; rw [show ao + j = ao + j / 5 * 5 + 1 by omega]; exact c1
      · rw [e] at hj2; simp at hj2; subst hj2; rw [show ao + j = ao + j / 5 * 5 + 2 by omega]; exact c2
      · rw [e] at hj2; simp at hj2; subst hj2; rw [show ao + j = ao + j / 5 * 5 + 3 by omega]; exact c3
      · rw [e] at hj2; simp at hj2; subst hj2; rw [show ao + j = ao + j / 5 * 5 + 4 by omega]; exact c4
    have ONE : Hid _ := hcells_one L
    have LEN : Hid ((hcells L).length = L.length * 5) := hcells_len L
    clear hL ha hsp
    generalize hcells L = cs at *
    obtain ⟨n, hn⟩ : ∃ z, L.length = z := ⟨_, rfl⟩
    rw [hn] at hN LEN ⊢
    clear hn
    go_enter Try.func15, Try.ntmps15
    go_wp2_with (at_builtin; refine wpList_append_own _ rfl _ _ 25 rfl w.heap.size 41 i0 (.agg #[.int .i64 0, .bool false, .bool false, .bool false, .int .i64 0]) 5 24 Try.underlying25 hi0 hz0 hz1 hz2 rfl (by decide) (.slice (some ⟨w.heap.size, 0, none⟩) 0 0) 0 [] rfl ?c0 ⟨ab, ao, asp⟩ n c cs rfl LEN.out (NEW.out _) ONE.out ?c3 ?c4 ?c5 ?_)
    case c0 => exact ⟨by simp, Or.inr ⟨w.heap.size, 0, #[], rfl, Nat.le_refl _, heap_alloc_new w _, by omega, by unfold maxLen; omega, by simp, by simp⟩⟩
    case c3 => unfold maxLen; omega
    case c4 => omega
    case c5 => simp
    intro v2 w2 own2 grow2 _
    have FIN : Hid (w2.ownsRow w.heap.size 41 5 v2 n cs) := own2
    have HB : Hid (Below w.heap.size w w2) := (one_belowS w _).grown grow2 (by simp) (fun k hk => by cases hk; exact Nat.le_refl _)
    obtain ⟨va, vc, rfl⟩ : ∃ va vc, v2 = .slice va n vc := by
      rcases own2.2 with ⟨e, e0⟩ | ⟨g, cap, cur, e, _⟩
      · exact ⟨none, 0, by rw [e, e0]⟩
      · exact ⟨_, cap, e⟩
    clear own2 grow2
    go_wp2_with fail
    go_ret
    exact ⟨_, rfl, HB.out, FIN.out⟩

end Go.Proofs.Ytebhlcjljdgnkaa
