/-
  The closed fact veiled.
-/
import Derived.Test.YtpnhmpmdeoaieaaQZg
import Derived.Test.YtpnhmpmdeoaieaaQZe
import Derived.Test.YtpnhmpmdeoaieaaQWc
import Derived.Test.YtpnhmpmdeoaieaaQHcHfHh
import Derived.Test.YtpnhmpmdeoaieaaQEaHj
namespace Go.Proofs.Ytpnhmpmdeoaieaa
open Go.RowKit

theorem s5_wf : WF S5 := (wf_iff _).1 (by decide)
def S6 : List Nd := S5.set 3 (rootNd (nd S5 3) 1 true)
def S7 : List Nd := enterS (leaveG S6 2) 3 2 0
theorem s6_wf : WF S6 := (wf_iff _).1 (by decide)
theorem s7_wf : WF S7 := (wf_iff _).1 (by decide)
theorem s6_check : tcheckE S6 [(((3 : Nat) : Int), 1), (((2 : Nat) : Int), 1)] = 0 := by decide
theorem s7_a : seenF S7 0 2 = false := by decide
theorem s7_b : seenF S7 3 2 = true := by decide
theorem s7_p : pathF S7 2 = [2, 3, 1, 0] := by decide
theorem s7_t : targetF S7 2 0 = 1 := by decide
theorem s7_0 : findE S7 ((0 : Nat) : Int) 1 = 0 := by decide
theorem s7_2 : findE S7 ((2 : Nat) : Int) 1 = 0 := by decide
theorem s7_3 : findE S7 ((3 : Nat) : Int) 1 = 0 := by decide
theorem s5_f1 : findE S5 ((1 : Nat) : Int) 1 = 0 := by decide

/-- The variables of veiled: the store, the hands, the root's hand. -/
def VL (X : World) (bs bh br g : Nat) : Prop :=
  (X.cell? ⟨bs, 0, none⟩ = some (.slice (some ⟨g, 0, none⟩) 6 6) ∧ (∀ o, X.frozen? ⟨bs, o, none⟩ = false)) ∧ (X.cell? ⟨bh, 0, none⟩ = some (.int .i64 0) ∧ X.cell? ⟨bh, 1, none⟩ = some (.int .i64 1) ∧ X.cell? ⟨bh, 2, none⟩ = some (.int .i64 1) ∧ X.cell? ⟨bh, 3, none⟩ = some (.int .i64 1) ∧ X.cell? ⟨bh, 4, none⟩ = some (.int .i64 2) ∧ X.cell? ⟨bh, 5, none⟩ = some (.int .i64 1)) ∧ (X.cell? ⟨br, 0, none⟩ = some (.int .i64 3) ∧ X.cell? ⟨br, 1, none⟩ = some (.int .i64 1))

theorem VL.below {X Y : World} {bs bh br g : Nat} (h : VL X bs bh br g) (hb : Below X.heap.size X Y) : VL Y bs bh br g := by
  obtain ⟨⟨a0, a1⟩, ⟨b0, b1, b2, b3, b4, b5⟩, c0, c1⟩ := h
  have l0 := World.block_lt_of_cell? _ _ a0
  have l1 := World.block_lt_of_cell? _ _ b0
  have l2 := World.block_lt_of_cell? _ _ c0
  exact ⟨⟨(hb.cell l0).trans a0, fun o => (hb.frozen (p := ⟨bs, o, none⟩) l0).trans (a1 o)⟩, ⟨(hb.cell (p := ⟨bh, 0, none⟩) l1).trans b0, (hb.cell (p := ⟨bh, 1, none⟩) l1).trans b1, (hb.cell (p := ⟨bh, 2, none⟩) l1).trans b2, (hb.cell (p := ⟨bh, 3, none⟩) l1).trans b3, (hb.cell (p := ⟨bh, 4, none⟩) l1).trans b4, (hb.cell (p := ⟨bh, 5, none⟩) l1).trans b5⟩, (hb.cell (p := ⟨br, 0, none⟩) l2).trans c0, (hb.cell (p := ⟨br, 1, none⟩) l2).trans c1⟩

theorem VL.set {X : World} {bs bh br g g' : Nat} (h : VL X bs bh br g) (h1 : bs ≠ bh) (h2 : bs ≠ br) : VL (X.setCell ⟨bs, 0, none⟩ (.slice (some ⟨g', 0, none⟩) 6 6)) bs bh br g' := by
  obtain ⟨⟨a0, a1⟩, ⟨b0, b1, b2, b3, b4, b5⟩, c0, c1⟩ := h
  refine ⟨⟨World.cell?_setCell_same _ _ _ a0, fun o => by rw [World.frozen?_setCell]; exact a1 o⟩, ⟨?_, ?_, ?_, ?_, ?_, ?_⟩, ?_, ?_⟩
  all_goals
    rw [World.cell?_setCell_other _ _ _ _ (addr_block (by first | exact h1 | exact h2))]
    assumption

end Go.Proofs.Ytpnhmpmdeoaieaa

namespace Go.Proofs.Ytpnhmpmdeoaieaa
open Go.RowKit

theorem find_used {S : List Nd} {p u : Int} (h : findE S p u = 0) : WF S ∧ ∃ k : Nat, p = k ∧ k < S.length ∧ (nd S k).u = true ∧ (nd S k).n = u := by
  obtain ⟨hc, hh⟩ := find_parts h
  refine ⟨(wf_iff S).1 hc, ?_⟩
  unfold holdsE at hh
  cases hq : isPl S.length p with
  | false => rw [hq, if_neg (by simp)] at hh; omega
  | true =>
    have hq' : 0 ≤ p ∧ p ≤ (S.length : Int) - 1 := of_decide_eq_true hq
    obtain ⟨k, rfl⟩ : ∃ k : Nat, p = k := ⟨p.toNat, by omega⟩
    rw [hq, if_pos rfl, Int.toNat_natCast] at hh
    unfold holdX at hh
    refine ⟨k, rfl, by omega, ?_⟩
    split at hh
    · split at hh
      · split at hh
        · exact ⟨by assumption, by assumption⟩
        · omega
      · omega
    · omega

theorem find_here {S : List Nd} (wf : WF S) {k : Nat} (hk : k < S.length) (hu : (nd S k).u = true) : findE S k (nd S k).n = 0 := find_zero wf (holds_used hk hu rfl wf)

theorem seen_of_roots {S : List Nd} {p q : Nat} (h : rootsF S p q = []) : seenF S p q = true := by
  unfold seenF
  rw [h]
  rfl

end Go.Proofs.Ytpnhmpmdeoaieaa

namespace Go.Proofs.Ytpnhmpmdeoaieaa
open Go.RowKit

theorem WF.path_nodup' {S : List Nd} (h : WF S) : ∀ (f k : Nat), k < S.length → (∀ j z, Up S j k z → j < f) → (pathF S k).Nodup
  | 0, k, _, hf => absurd (hf 0 k rfl) (Nat.not_lt_zero _)
  | f + 1, k, hk, hf => by
    by_cases hr : ∃ q : Nat, q < S.length ∧ rightUnder (nd S k) = q
    · obtain ⟨q, hq, hr⟩ := hr
      rw [h.path_up hk hq hr, List.nodup_cons]
      refine ⟨fun hm => ?_, h.path_nodup' f q hq (fun j z hu => ?_)⟩
      · obtain ⟨q', j, e, _, hu⟩ := mem_path hq hm
        have e2 : q' = k := by omega
        subst e2
        have hu2 : Up S (j + 1) q' q' := ⟨q, hq, hr, hu⟩
        exact h.no_ring hk (by omega) (by have := h.up_short hk hu2; omega) hu2
      · have := hf (j + 1) z ⟨q, hq, hr, hu⟩
        omega
    · rw [WF.path_top hr]
      simp
theorem WF.path_nodup {S : List Nd} (h : WF S) {k : Nat} (hk : k < S.length) : (pathF S k).Nodup := h.path_nodup' S.length k hk (fun j z hu => by have := h.up_short hk hu; omega)

theorem one_id {L : List Hr} (hL : (L.map Hr.id).Nodup) : ∀ h ∈ L, ∀ h' ∈ L, h.id = h'.id → h = h' := by
  have hL2 : L.Pairwise fun h h' => h.id ≠ h'.id := by rw [List.Nodup, List.pairwise_map] at hL; exact hL
  induction L with
  | nil => intro h hm; simp at hm
  | cons a t ih =>
    rw [List.pairwise_cons] at hL2
    rw [List.map_cons, List.nodup_cons] at hL
    intro h hm h' hm' e
    rw [List.mem_cons] at hm hm'
    rcases hm with rfl | hm <;> rcases hm' with rfl | hm'
    · rfl
    · exact absurd e (hL2.1 _ hm')
    · exact absurd e.symm (hL2.1 _ hm)
    · exact ih hL.2 hL2.2 h hm h' hm' e

def upF (T : List Hr) (i : Nat) : Bool := (T.take i).any fun h => !h.dn
theorem up_step {T : List Hr} {i : Nat} (h : i < T.length) : upF T (i + 1) = (upF T i || !(hr T i).dn) := by
  unfold upF
  rw [List.take_succ_eq_append_getElem h, List.any_append, hr_elem h]
  simp
theorem up_dn {T : List Hr} (hT : T.Pairwise fun h h' => h.dn = false → h'.dn = false) {i : Nat} (h : i < T.length) (hu : upF T i = true) : (hr T i).dn = false := by
  unfold upF at hu
  obtain ⟨x, hx, hxd⟩ := List.any_eq_true.1 hu
  have hs : (T.take (i + 1)).Pairwise fun h h' => h.dn = false → h'.dn = false := hT.sublist (List.take_sublist _ _)
  rw [List.take_succ_eq_append_getElem h, List.pairwise_append] at hs
  rw [hr_elem h]
  exact hs.2.2 x hx T[i] (by simp) (by simpa using hxd)

theorem left_has {L : List Hr} {T : List Int} {x : Hr} (hx : x ∈ L) : decide (x ∈ leftF L T) = !(x.on && decide (x.id ∈ T)) := by
  cases h : (!(x.on && decide (x.id ∈ T))) with
  | true => exact decide_eq_true (List.mem_filter.2 ⟨hx, h⟩)
  | false => exact decide_eq_false (fun hm => by have h2 := (List.mem_filter.1 hm).2; rw [h] at h2; cases h2)

/-- One call of an event. -/
structure CallOk (S : List Nd) (L : List Hr) (k : Nat) (T : List Hr) (i : Nat) (h : Hr) (q t : Nat) : Prop where
  cl : cal (T.map (callH S k)) i = ⟨h.id, q, t, phaseF t q h.dn⟩
  mem : h ∈ L
  pl : h.pl = q
  qn : q < S.length
  qu : (nd S q).u = true
  qp : (q : Int) ∈ pathF S k
  tn : t < S.length
  tu : (nd S t).u = true
  sn : seenF S q t = true
  id : (T.map Hr.id).getD i 0 = h.id
  up : upF T (i + 1) = (upF T i || !h.dn)
  dn : upF T i = true → h.dn = false

theorem call_facts {S : List Nd} {L : List Hr} {k : Nat} (wf : WF S) (hk : k < S.length) (hku : (nd S k).u = true) {i : Nat} (hi : i < (toldF L (spotsF (pathF S k))).length) : ∃ (h : Hr) (q t : Nat), CallOk S L k (toldF L (spotsF (pathF S k))) i h q t := by
  have hord := told_order L (pathF S k)
  have hmem : hr (toldF L (spotsF (pathF S k))) i ∈ toldF L (spotsF (pathF S k)) := by rw [hr_elem hi]; exact List.getElem_mem hi
  obtain ⟨hl, hs⟩ := told_mem hmem
  have hp := spots_mem hs
  have hup := up_step hi
  have hdn := up_dn hord hi
  generalize hT : toldF L (spotsF (pathF S k)) = T at *
  have hcal : cal (T.map (callH S k)) i = callH S k (hr T i) := by
    rw [cal_elem (by simpa using hi), hr_elem hi]
    simp
  have hid : (T.map Hr.id).getD i 0 = (hr T i).id := by
    rw [hr_elem hi, List.getD_eq_getElem?_getD, List.getElem?_map, List.getElem?_eq_getElem hi]
    rfl
  generalize hr T i = h at *
  dsimp only at hp
  obtain ⟨q, e, hq, hqu⟩ := wf.path_used hk hku hp
  obtain ⟨t, t1, t2, t3, t4, t5, t6⟩ := wf.target (p := q) hk hku
  refine ⟨h, q, t, ?_, hl, e, hq, hqu, by rw [← e]; exact hp, t2, t3, seen_of_roots t5, hid, hup, hdn⟩
  rw [hcal]
  unfold callH callF
  dsimp only
  rw [e, Int.toNat_natCast, t1]
end Go.Proofs.Ytpnhmpmdeoaieaa

namespace Go.Proofs.Ytpnhmpmdeoaieaa
open Go.RowKit
set_option linter.unusedVariables false

def setS (L : List Hr) (kk : Nat) (b : Bool) : List Hr := L.set kk (stopH (hr L kk) b)
theorem setS_len (L : List Hr) (kk : Nat) (b : Bool) : (setS L kk b).length = L.length := by unfold setS; simp
theorem setS_parts {L : List Hr} {kk : Nat} (b : Bool) (hk : kk < L.length) : setS L kk b = L.take kk ++ stopH (hr L kk) b :: L.drop (kk + 1) := by
  unfold setS
  rw [List.set_eq_take_append_cons_drop, if_pos hk]
theorem parts_of {L : List Hr} {kk : Nat} (hk : kk < L.length) : L = L.take kk ++ hr L kk :: L.drop (kk + 1) := by
  rw [hr_elem hk, ← List.drop_eq_getElem_cons hk, List.take_append_drop]
theorem setS_map {β : Type} {L : List Hr} {kk : Nat} (b : Bool) (hk : kk < L.length) (f : Hr → β) (hf : ∀ h b, f (stopH h b) = f h) : (setS L kk b).map f = L.map f := by
  rw [setS_parts b hk, List.map_append, List.map_cons, hf]
  conv => rhs; rw [parts_of hk, List.map_append, List.map_cons]
theorem hr_map {β : Type} {M L : List Hr} {f : Hr → β} (e : M.map f = L.map f) (i : Nat) : f (hr M i) = f (hr L i) := by
  have h := congrArg (fun l => l[i]?) e
  simp only [List.getElem?_map] at h
  unfold hr
  rw [List.getD_eq_getElem?_getD, List.getD_eq_getElem?_getD]
  cases h1 : M[i]? with
  | none =>
    cases h2 : L[i]? with
    | none => rfl
    | some y => rw [h1, h2] at h; simp at h
  | some x =>
    cases h2 : L[i]? with
    | none => rw [h1, h2] at h; simp at h
    | some y => rw [h1, h2] at h; simpa using h
theorem hgo_congr (N : Int) : ∀ (L L' : List Hr) (seen : List Int), L.map (fun h => (h.pl, h.id)) = L'.map (fun h => (h.pl, h.id)) → hgo N seen L = hgo N seen L'
  | [], [], _, _ => rfl
  | [], _ :: _, _, e => by simp at e
  | _ :: _, [], _, e => by simp at e
  | x :: t, x' :: t', seen, e => by
    simp only [List.map_cons, List.cons.injEq, Prod.mk.injEq] at e
    obtain ⟨⟨e1, e2⟩, e3⟩ := e
    rw [hgo, hgo, e1, e2, hgo_congr N t t' _ e3]
theorem hcheck_set {L : List Hr} {kk : Nat} (b : Bool) (hk : kk < L.length) (N : Int) : hcheckE (setS L kk b) N = hcheckE L N := by
  unfold hcheckE hErr idsF
  rw [setS_len]
  simp only [List.take_zero, List.drop_zero, List.map_nil]
  rw [hgo_congr N (setS L kk b) L [] (setS_map b hk _ (fun _ _ => rfl))]
theorem big_set {L : List Hr} {kk : Nat} (b : Bool) (hk : kk < L.length) (h : BigH L) : BigH (setS L kk b) := fun i hi => by
  rw [setS_len] at hi
  rw [hr_map (setS_map b hk Hr.id (fun _ _ => rfl)) i]
  exact h i hi

theorem told_idx {L : List Hr} {kk : Nat} {b : Bool} (hk : kk < L.length) {g : Hr} (hg : g ∈ setS L kk b) : ∃ m, m < L.length ∧ (hr L m).id = g.id ∧ (hr L m).dn = g.dn := by
  obtain ⟨m, hm, e⟩ := List.getElem_of_mem hg
  have hm' : m < L.length := by rw [setS_len] at hm; exact hm
  have e1 : hr (setS L kk b) m = g := by rw [hr_elem hm]; exact e
  refine ⟨m, hm', ?_, ?_⟩
  · rw [← e1, hr_map (setS_map b hk Hr.id (fun _ _ => rfl)) m]
  · rw [← e1, hr_map (setS_map b hk Hr.dn (fun _ _ => rfl)) m]
theorem told_dn {L : List Hr} {kk : Nat} {b : Bool} (hnd : (L.map Hr.id).Nodup) (hk : kk < L.length) {g : Hr} (hg : g ∈ setS L kk b) {n : Nat} (hn : n < L.length) (he : (hr L n).id = g.id) : (hr L n).dn = g.dn := by
  obtain ⟨m, hm, e1, e2⟩ := told_idx hk hg
  have : hr L n = hr L m := one_id hnd _ (by rw [hr_elem hn]; exact List.getElem_mem hn) _ (by rw [hr_elem hm]; exact List.getElem_mem hm) (by rw [he, e1])
  rw [this, e2]

structure StopOk (S : List Nd) (k : Nat) (L T1 T0 : List Hr) (h : Hr) : Prop where
  len : (T1.map (callH S k)).length ≤ (T0.map (callH S k)).length
  pre : T1.map (callH S k) = (T0.map (callH S k)).take (T1.map (callH S k)).length
  eq : (∀ g ∈ T1, g.id ≠ h.id) → T1.map (callH S k) = T0.map (callH S k)
  rest : ∀ i j, i < j → j < T1.length → (hr T1 i).id = h.id → (hr T1 j).pl = (hr T1 i).pl ∧ (hr T1 j).dn = h.dn

theorem stop_facts (S : List Nd) (k : Nat) {L : List Hr} {kk : Nat} (hk : kk < L.length) (hnd : (L.map Hr.id).Nodup) (X : List (Int × Bool)) : StopOk S k L (toldF (setS L kk true) X) (toldF (setS L kk false) X) (hr L kk) := by
  have hnd1 : ((setS L kk true).map Hr.id).Nodup := by rw [setS_map true hk Hr.id (fun _ _ => rfl)]; exact hnd
  have hm0 : stopH (hr L kk) true ∈ setS L kk true := by rw [setS_parts true hk]; simp
  have same : ∀ g ∈ toldF (setS L kk true) X, g.id = (hr L kk).id → g = stopH (hr L kk) true := fun g hg e => one_id hnd1 g (told_mem hg).1 _ hm0 e
  have hs := stop_parts (L.take kk) (L.drop (kk + 1)) (hr L kk) X
  have e1 := hear_calls S k (L.take kk) (L.drop (kk + 1)) (hr L kk) true
  have e0 := hear_calls S k (L.take kk) (L.drop (kk + 1)) (hr L kk) false
  rw [← setS_parts true hk, ← setS_parts false hk] at hs
  rw [← setS_parts true hk] at e1
  rw [← setS_parts false hk] at e0
  generalize hr L kk = h at *
  rcases hs with ⟨h1, h2⟩ | ⟨P, Y, h1, h2, h3⟩
  · rw [← h1]
    refine ⟨Nat.le_refl _, by rw [List.take_length], fun _ => rfl, fun i j hij hj hid => ?_⟩
    have hi : i < (toldF (setS L kk true) X).length := by omega
    have hm : hr (toldF (setS L kk true) X) i ∈ toldF (setS L kk true) X := by rw [hr_elem hi]; exact List.getElem_mem hi
    have := same _ hm hid
    exact absurd (by rw [this]; rfl) (h2 _ hm)
  · have hmem : stopH h true ∈ toldF (setS L kk true) X := by
      rw [h1]
      exact List.mem_append_right _ (hear_mem.2 ⟨hm0, rfl⟩)
    have a1 : (toldF (setS L kk true) X).map (callH S k) = P.map (callH S k) ++ (hearF (L.take kk ++ h :: L.drop (kk + 1)) (h.pl, h.dn)).map (callH S k) := by rw [h1, List.map_append, e1]
    have a0 : (toldF (setS L kk false) X).map (callH S k) = P.map (callH S k) ++ (hearF (L.take kk ++ h :: L.drop (kk + 1)) (h.pl, h.dn)).map (callH S k) ++ Y.map (callH S k) := by rw [h2, List.map_append, List.map_append, e0]
    refine ⟨?_, ?_, fun hno => absurd (rfl : (stopH h true).id = h.id) (hno (stopH h true) hmem), fun i j hij hj hid => ?_⟩
    · rw [a0, ← a1, List.length_append]
      omega
    · rw [a0, ← a1, List.take_left]
    · have hi : i < (toldF (setS L kk true) X).length := by omega
      have hm : hr (toldF (setS L kk true) X) i ∈ toldF (setS L kk true) X := by rw [hr_elem hi]; exact List.getElem_mem hi
      have es := same _ hm hid
      rw [es]
      have hPi : P.length ≤ i := by
        rcases Nat.lt_or_ge i P.length with hlt | hge
        · exfalso
          have hp : hr (toldF (setS L kk true) X) i ∈ P := by
            rw [hr_elem hi]
            simp only [h1]
            rw [List.getElem_append_left hlt]
            exact List.getElem_mem hlt
          exact h3 _ hp (by rw [es]; rfl)
        · exact hge
      have hq : hr (toldF (setS L kk true) X) j ∈ hearF (setS L kk true) (h.pl, h.dn) := by
        rw [hr_elem hj]
        simp only [h1]
        rw [List.getElem_append_right (by omega)]
        exact List.getElem_mem _
      have e := (hear_mem.1 hq).2
      simp only [Prod.mk.injEq] at e
      exact ⟨e.1, e.2⟩

set_option maxRecDepth 100000 in
set_option maxHeartbeats 1000000 in
theorem cloneHr_big (a : Option Addr) (c : Nat) (L : List Hr) (w : World) (hN : L.length * 24 ≤ 140737488355328) (hL : HrsAt w a L) (ha : a = none → L.length = 0) :
    Calls Try.prog 21 #[.slice a L.length c] w fun e w' => ∃ v2, e = .returned v2 ∧ Below w.heap.size w w' ∧ w'.ownsRow w.heap.size 39 5 v2 L.length (hcells L) := by
  obtain ⟨i0, hi0, hz0, hz1, hz2⟩ := info_parts infoHearer
  cases a with
  | none =>
    have h0 := ha rfl
    have e : L = [] := List.eq_nil_of_length_eq_zero h0
    subst e
    have hnil := fun (W : World) n c n' c' => Lib.run_eql_slice_nil (P := Try.prog) W 25 39 none n c n' c' Try.underlying25
    have FIN : Hid (w.ownsRow w.heap.size 39 5 (.slice none 0 0) 0 []) := World.ownsRow_nil _ _ _ _
    clear hL ha h0
    go_enter Try.func21, Try.ntmps21
    go_wp2_with fail
    go_ret
    exact ⟨_, rfl, Below.refl _ _, FIN.out⟩
  | some ad =>
    obtain ⟨ab, ao, asp⟩ := ad
    have hsp : 0 < L.length → asp = none := fun h => by
      obtain ⟨b, o, e, _⟩ := hL 0 h
      cases e
      rfl
    have hnil := fun (W : World) n c n' c' => Lib.run_eql_slice_nil (P := Try.prog) W 25 39 (some ⟨ab, ao, asp⟩) n c n' c' Try.underlying25
    have NEW : Hid (∀ o1, ∀ j u, (hcells L)[j]? = some u → (w.alloc o1).cell? ((⟨ab, ao, asp⟩ : Addr).add j) = some u) := fun o1 j u hj => by
      have hlt : j < L.length * 5 := by
        rcases Nat.lt_or_ge j (L.length * 5) with h | h
        · exact h
        · rw [List.getElem?_eq_none (by rw [hcells_len]; exact h)] at hj; cases hj
      have e := hsp (by omega)
      subst e
      obtain ⟨b, o, e, c0, c1, c2, c3, c4⟩ := hL (j / 5) (by omega)
      cases e
      have hj2 : (hcell (hr L (j / 5)))[j % 5]? = some u := by
        rw [← hcells_at L (i := j / 5) (j := j % 5) (by omega) (by omega), show j / 5 * 5 + j % 5 = j by omega]
        exact hj
      rw [Addr.add_lit]
      refine keepC ?_ (one_belowS w o1)
      have e5 : j % 5 = 0 ∨ j % 5 = 1 ∨ j % 5 = 2 ∨ j % 5 = 3 ∨ j % 5 = 4 := by omega
      unfold hcell at hj2
      rcases e5 with e | e | e | e | e
      · rw [e] at hj2; simp at hj2; subst hj2; rw [show ao + j = ao + j / 5 * 5 by omega]; exact c0
      · rw [e] at hj2; simp at hj2; subst hj2; rw [show ao + j = ao + j / 5 * 5 + 1 by omega]; exact c1
      · rw [e] at hj2; simp at hj2; subst hj2; rw [show ao + j = ao + j / 5 * 5 + 2 by omega]; exact c2
      · rw [e] at hj2; simp at hj2; subst hj2; rw [show ao + j = ao + j / 5 * 5 + 3 by omega]; exact c3
      · rw [e] at hj2; simp at hj2; subst hj2; rw [show ao + j = ao + j / 5 * 5 + 4 by omega]; exact c4
    have ONE : Hid _ := hcells_one L
    have LEN : Hid ((hcells L).length = L.length * 5) := hcells_len L
    clear hL ha hsp
    generalize hcells L = cs at *
    obtain ⟨n, hn⟩ : ∃ z, L.length = z := ⟨_, rfl⟩
    rw [hn] at hN LEN ⊢
    clear hn
    go_enter Try.func21, Try.ntmps21
    go_wp2_with (at_builtin; refine wpList_append_own _ rfl _ _ 25 rfl w.heap.size 39 i0 (.agg #[.int .i64 0, .bool false, .bool false, .bool false, .int .i64 0]) 5 24 Try.underlying25 hi0 hz0 hz1 hz2 rfl (by decide) (.slice (some ⟨w.heap.size, 0, none⟩) 0 0) 0 [] rfl ?c0 ⟨ab, ao, asp⟩ n c cs rfl LEN.out (NEW.out _) ONE.out ?c3 ?c4 ?c5 ?_)
    case c0 => exact ⟨by simp, Or.inr ⟨w.heap.size, 0, #[], rfl, Nat.le_refl _, heap_alloc_new w _, by omega, by unfold maxLen; omega, by simp, by simp⟩⟩
    case c3 => unfold maxLen; omega
    case c4 => omega
    case c5 => simp
    intro v2 w2 own2 grow2 _
    have FIN : Hid (w2.ownsRow w.heap.size 39 5 v2 n cs) := own2
    have HB : Hid (Below w.heap.size w w2) := (one_belowS w _).grown grow2 (by simp) (fun k hk => by cases hk; exact Nat.le_refl _)
    obtain ⟨va, vc, rfl⟩ : ∃ va vc, v2 = .slice va n vc := by
      rcases own2.2 with ⟨e, e0⟩ | ⟨g, cap, cur, e, _⟩
      · exact ⟨none, 0, by rw [e, e0]⟩
      · exact ⟨_, cap, e⟩
    clear own2 grow2
    go_wp2_with fail
    go_ret
    exact ⟨_, rfl, HB.out, FIN.out⟩

end Go.Proofs.Ytpnhmpmdeoaieaa
