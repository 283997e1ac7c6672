/-
  WITHOUT THE PROGRAM: what EventTold asks of those who are told.
-/
import Derived.Test.YtpnhmpmdeoaieaaJHfHk
import Derived.Test.YtpnhmpmdeoaieaaJZiZkRs
import Derived.Test.YtpnhmpmdeoaieaaJHh
namespace Go.Proofs.Ytpnhmpmdeoaieaa
open Go.RowKit

theorem WF.path_nodup' {S : List Nd} (h : WF S) : ∀ (f k : Nat), k < S.length → (∀ j z, Up S j k z → j < f) → (pathF S k).Nodup
  | 0, k, _, hf => absurd (hf 0 k rfl) (Nat.not_lt_zero _)
  | f + 1, k, hk, hf => by
    by_cases hr : ∃ q : Nat, q < S.length ∧ rightUnder (nd S k) = q
    · obtain ⟨q, hq, hr⟩ := hr
      rw [h.path_up hk hq hr, List.nodup_cons]
      refine ⟨fun hm => ?_, h.path_nodup' f q hq (fun j z hu => ?_)⟩
      · obtain ⟨q', j, e, _, hu⟩ := mem_path hq hm
        have e2 : q' = k := by omega
        subst e2
        have hu2 : Up S (j + 1) q' q' := ⟨q, hq, hr, hu⟩
        exact h.no_ring hk (by omega) (by have := h.up_short hk hu2; omega) hu2
      · have := hf (j + 1) z ⟨q, hq, hr, hu⟩
        omega
    · rw [WF.path_top hr]
      simp
theorem WF.path_nodup {S : List Nd} (h : WF S) {k : Nat} (hk : k < S.length) : (pathF S k).Nodup := h.path_nodup' S.length k hk (fun j z hu => by have := h.up_short hk hu; omega)

theorem one_id {L : List Hr} (hL : (L.map Hr.id).Nodup) : ∀ h ∈ L, ∀ h' ∈ L, h.id = h'.id → h = h' := by
  have hL2 : L.Pairwise fun h h' => h.id ≠ h'.id := by rw [List.Nodup, List.pairwise_map] at hL; exact hL
  induction L with
  | nil => intro h hm; simp at hm
  | cons a t ih =>
    rw [List.pairwise_cons] at hL2
    rw [List.map_cons, List.nodup_cons] at hL
    intro h hm h' hm' e
    rw [List.mem_cons] at hm hm'
    rcases hm with rfl | hm <;> rcases hm' with rfl | hm'
    · rfl
    · exact absurd e (hL2.1 _ hm')
    · exact absurd e.symm (hL2.1 _ hm)
    · exact ih hL.2 hL2.2 h hm h' hm' e

def upF (T : List Hr) (i : Nat) : Bool := (T.take i).any fun h => !h.dn
theorem up_step {T : List Hr} {i : Nat} (h : i < T.length) : upF T (i + 1) = (upF T i || !(hr T i).dn) := by
  unfold upF
  rw [List.take_succ_eq_append_getElem h, List.any_append, hr_elem h]
  simp
theorem up_dn {T : List Hr} (hT : T.Pairwise fun h h' => h.dn = false → h'.dn = false) {i : Nat} (h : i < T.length) (hu : upF T i = true) : (hr T i).dn = false := by
  unfold upF at hu
  obtain ⟨x, hx, hxd⟩ := List.any_eq_true.1 hu
  have hs : (T.take (i + 1)).Pairwise fun h h' => h.dn = false → h'.dn = false := hT.sublist (List.take_sublist _ _)
  rw [List.take_succ_eq_append_getElem h, List.pairwise_append] at hs
  rw [hr_elem h]
  exact hs.2.2 x hx T[i] (by simp) (by simpa using hxd)

theorem left_has {L : List Hr} {T : List Int} {x : Hr} (hx : x ∈ L) : decide (x ∈ leftF L T) = !(x.on && decide (x.id ∈ T)) := by
  cases h : (!(x.on && decide (x.id ∈ T))) with
  | true => exact decide_eq_true (List.mem_filter.2 ⟨hx, h⟩)
  | false => exact decide_eq_false (fun hm => by have h2 := (List.mem_filter.1 hm).2; rw [h] at h2; cases h2)

/-- One call of an event. -/
structure CallOk (S : List Nd) (L : List Hr) (k : Nat) (T : List Hr) (i : Nat) (h : Hr) (q t : Nat) : Prop where
  cl : cal (T.map (callH S k)) i = ⟨h.id, q, t, phaseF t q h.dn⟩
  mem : h ∈ L
  pl : h.pl = q
  qn : q < S.length
  qu : (nd S q).u = true
  qp : (q : Int) ∈ pathF S k
  tn : t < S.length
  tu : (nd S t).u = true
  sn : seenF S q t = true
  id : (T.map Hr.id).getD i 0 = h.id
  up : upF T (i + 1) = (upF T i || !h.dn)
  dn : upF T i = true → h.dn = false

theorem call_facts {S : List Nd} {L : List Hr} {k : Nat} (wf : WF S) (hk : k < S.length) (hku : (nd S k).u = true) {i : Nat} (hi : i < (toldF L (spotsF (pathF S k))).length) : ∃ (h : Hr) (q t : Nat), CallOk S L k (toldF L (spotsF (pathF S k))) i h q t := by
  have hord := told_order L (pathF S k)
  have hmem : hr (toldF L (spotsF (pathF S k))) i ∈ toldF L (spotsF (pathF S k)) := by rw [hr_elem hi]; exact List.getElem_mem hi
  obtain ⟨hl, hs⟩ := told_mem hmem
  have hp := spots_mem hs
  have hup := up_step hi
  have hdn := up_dn hord hi
  generalize hT : toldF L (spotsF (pathF S k)) = T at *
  have hcal : cal (T.map (callH S k)) i = callH S k (hr T i) := by
    rw [cal_elem (by simpa using hi), hr_elem hi]
    simp
  have hid : (T.map Hr.id).getD i 0 = (hr T i).id := by
    rw [hr_elem hi, List.getD_eq_getElem?_getD, List.getElem?_map, List.getElem?_eq_getElem hi]
    rfl
  generalize hr T i = h at *
  dsimp only at hp
  obtain ⟨q, e, hq, hqu⟩ := wf.path_used hk hku hp
  obtain ⟨t, t1, t2, t3, t4, t5, t6⟩ := wf.target (p := q) hk hku
  refine ⟨h, q, t, ?_, hl, e, hq, hqu, by rw [← e]; exact hp, t2, t3, seen_of_roots t5, hid, hup, hdn⟩
  rw [hcal]
  unfold callH callF
  dsimp only
  rw [e, Int.toNat_natCast, t1]
end Go.Proofs.Ytpnhmpmdeoaieaa

namespace Go.Proofs.Ytpnhmpmdeoaieaa
open Go.RowKit
set_option linter.unusedVariables false

set_option maxRecDepth 100000 in
set_option maxHeartbeats 2000000 in
theorem hasHr_any (ha : Option Addr) (hc : Nat) (L : List Hr) (x : Hr) (w : World) (hL : L.length ≤ 9223372036854775807) (hH : HrsAt w ha L) :
    Calls Try.prog 44 #[.slice ha L.length hc, .agg #[.int .i64 x.pl, .bool x.dn, .bool x.on, .bool x.st, .int .i64 x.id]] w fun e w' => ∃ r : Int, e = .returned (.int .i64 r) ∧ Below w.heap.size w w' ∧ ((0 ≤ r) ↔ x ∈ L) := by
  have HH : Hid (HrsAt w ha L) := hH
  have IN : Hid (∀ k, k < L.length → hr L k = x → x ∈ L) := fun k hk h => by rw [← h, hr_elem hk]; exact List.getElem_mem hk
  have OUT : Hid ((∀ k, k < L.length → hr L k ≠ x) → x ∉ L) := fun h hm => by
    obtain ⟨i, hi, e⟩ := List.getElem_of_mem hm
    exact h i hi (by rw [hr_elem hi]; exact e)
  clear hH
  obtain ⟨m, hm⟩ : ∃ m, L.length = m := ⟨_, rfl⟩
  have HM : Hid (L.length = m) := hm
  rw [hm] at hL IN OUT ⊢
  clear hm
  generalize (x ∈ L) = Q at *
  obtain ⟨xp, xd, xo, xs, xi⟩ := x
  dsimp only
  go_enter Try.func44, Try.ntmps44
  go_wp2
  go_loopg [8] m (fun g s8 wr => ∃ k : Nat, k ≤ m ∧ m - k ≤ g ∧ s8 = .int .i64 k ∧ Below (w.heap.size + 1) (w.alloc (.cells #[.int .i64 xp, .bool xd, .bool xo, .bool xs, .int .i64 xi] 39)) wr ∧ Hid (∀ i, i < k → hr L i ≠ ⟨xp, xd, xo, xs, xi⟩))
  case atStart => exact ⟨0, by omega, by omega, rfl, Below.refl _ _, (show Hid _ from fun i hi => absurd hi (Nat.not_lt_zero _))⟩
  case round =>
    obtain ⟨k, hk, hg, rfl, hb, A⟩ := hrel
    have hB0 : Below w.heap.size w wr := ((Below.refl _ _).alloc (Nat.le_refl _) _).trans (hb.mono (by omega))
    have x0 : wr.cell? ⟨w.heap.size, 0, none⟩ = some (.int .i64 xp) := (hb.cell (by simp)).trans (by go_simp)
    have x1 : wr.cell? ⟨w.heap.size, 1, none⟩ = some (.bool xd) := (hb.cell (by simp)).trans (by go_simp)
    have x2 : wr.cell? ⟨w.heap.size, 2, none⟩ = some (.bool xo) := (hb.cell (by simp)).trans (by go_simp)
    have x3 : wr.cell? ⟨w.heap.size, 3, none⟩ = some (.bool xs) := (hb.cell (by simp)).trans (by go_simp)
    have x4 : wr.cell? ⟨w.heap.size, 4, none⟩ = some (.int .i64 xi) := (hb.cell (by simp)).trans (by go_simp)
    by_cases hlt : k < m
    · have hlt2 : (k : Int) < (m : Int) := by omega
      obtain ⟨b, o, rfl, c0, c1, c2, c3, c4⟩ := (HH.out.below hB0) k (by rw [HM.out]; exact hlt)
      generalize hy : hr L k = y at *
      obtain ⟨yp, yd, yo, ys, yi⟩ := y
      dsimp only at c0 c1 c2 c3 c4
      have HY : Hid _ := hy
      clear hy
      by_cases e0 : xp = yp
      · by_cases e1 : xd = yd
        · by_cases e2 : xo = yo
          · by_cases e3 : xs = ys
            · by_cases e4 : xi = yi
              · subst e0
                subst e1
                subst e2
                subst e3
                subst e4
                have Z : Hid _ := IN.out k hlt HY.out
                go_wp2_with fail
                go_quiet (fail)
                go_wp2
                go_ret
                exact ⟨k, rfl, Below.drewNs hB0 _, fun _ => Z.out, fun _ => by omega⟩
              · have ef : (xi == yi) = false := beq_eq_false_iff_ne.2 e4
                have NE : Hid ((⟨yp, yd, yo, ys, yi⟩ : Hr) ≠ ⟨xp, xd, xo, xs, xi⟩) := fun h => e4 (by cases h; rfl)
                subst e0
                subst e1
                subst e2
                subst e3
                go_wp2_with fail
                go_quiet (fail)
                go_wp2
                go_roundg (m - (k + 1))
                case measure => omega
                case rel =>
                  refine ⟨k + 1, by omega, by omega, by go_num, Below.drewNs hb _, (show Hid _ from fun i hi => ?_)⟩
                  by_cases e : i = k
                  · rw [e, HY.out]; exact NE.out
                  · exact A.out i (by omega)
            · have ef : (xs == ys) = false := beq_eq_false_iff_ne.2 e3
              have NE : Hid ((⟨yp, yd, yo, ys, yi⟩ : Hr) ≠ ⟨xp, xd, xo, xs, xi⟩) := fun h => e3 (by cases h; rfl)
              subst e0
              subst e1
              subst e2
              go_wp2_with fail
              go_quiet (fail)
              go_wp2
              go_roundg (m - (k + 1))
              case measure => omega
              case rel =>
                refine ⟨k + 1, by omega, by omega, by go_num, Below.drewNs hb _, (show Hid _ from fun i hi => ?_)⟩
                by_cases e : i = k
                · rw [e, HY.out]; exact NE.out
                · exact A.out i (by omega)
          · have ef : (xo == yo) = false := beq_eq_false_iff_ne.2 e2
            have NE : Hid ((⟨yp, yd, yo, ys, yi⟩ : Hr) ≠ ⟨xp, xd, xo, xs, xi⟩) := fun h => e2 (by cases h; rfl)
            subst e0
            subst e1
            go_wp2_with fail
            go_quiet (fail)
            go_wp2
            go_roundg (m - (k + 1))
            case measure => omega
            case rel =>
              refine ⟨k + 1, by omega, by omega, by go_num, Below.drewNs hb _, (show Hid _ from fun i hi => ?_)⟩
              by_cases e : i = k
              · rw [e, HY.out]; exact NE.out
              · exact A.out i (by omega)
        · have ef : (xd == yd) = false := beq_eq_false_iff_ne.2 e1
          have NE : Hid ((⟨yp, yd, yo, ys, yi⟩ : Hr) ≠ ⟨xp, xd, xo, xs, xi⟩) := fun h => e1 (by cases h; rfl)
          subst e0
          go_wp2_with fail
          go_quiet (fail)
          go_wp2
          go_roundg (m - (k + 1))
          case measure => omega
          case rel =>
            refine ⟨k + 1, by omega, by omega, by go_num, Below.drewNs hb _, (show Hid _ from fun i hi => ?_)⟩
            by_cases e : i = k
            · rw [e, HY.out]; exact NE.out
            · exact A.out i (by omega)
      · have ef : (xp == yp) = false := beq_eq_false_iff_ne.2 e0
        have NE : Hid ((⟨yp, yd, yo, ys, yi⟩ : Hr) ≠ ⟨xp, xd, xo, xs, xi⟩) := fun h => e0 (by cases h; rfl)
        go_wp2_with fail
        go_quiet (fail)
        go_wp2
        go_roundg (m - (k + 1))
        case measure => omega
        case rel =>
          refine ⟨k + 1, by omega, by omega, by go_num, Below.drewNs hb _, (show Hid _ from fun i hi => ?_)⟩
          by_cases e : i = k
          · rw [e, HY.out]; exact NE.out
          · exact A.out i (by omega)
    · have : k = m := by omega
      subst this
      have Z : Hid _ := OUT.out A.out
      go_wp2
      go_ret
      exact ⟨-1, rfl, hB0, fun h => by omega, fun h => absurd h Z.out⟩

set_option maxHeartbeats 800000 in
theorem containsHr_any (ha : Option Addr) (hc : Nat) (L : List Hr) (x : Hr) (w : World) (hL : L.length ≤ 9223372036854775807) (hH : HrsAt w ha L) :
    Calls Try.prog 19 #[.slice ha L.length hc, .agg #[.int .i64 x.pl, .bool x.dn, .bool x.on, .bool x.st, .int .i64 x.id]] w fun e w' => e = .returned (.bool (decide (x ∈ L))) ∧ Below w.heap.size w w' := by
  have D : Hid (∀ o1, Calls _ _ _ _ _) := fun o1 => hasHr_any ha hc L x (w.alloc o1) hL (hH.below (one_belowS _ _))
  clear hH
  obtain ⟨R, hR⟩ : ∃ R, decide (x ∈ L) = R := ⟨_, rfl⟩
  have HR : Hid (R = true ↔ x ∈ L) := by show _ ↔ _; rw [← hR]; simp
  rw [hR]
  clear hR
  generalize (x ∈ L) = Q at *
  generalize L.length = n at *
  obtain ⟨xp, xd, xo, xs, xi⟩ := x
  dsimp only at D ⊢
  go_enter Try.func19, Try.ntmps19
  go_wp2_with fail
  refine Calls.mono (D.out _) ?_
  rintro e w1 ⟨r, rfl, hb, hr1⟩
  have HB : Hid (Below w.heap.size w w1) := (one_belowS w _).trans (hb.mono (by simp))
  have HQ : Hid (0 ≤ r ↔ Q) := hr1
  clear hb hr1
  by_cases h : 0 ≤ r
  · have hd : decide (0 ≤ r) = true := decide_eq_true h
    have HT : Hid (R = true) := HR.out.2 (HQ.out.1 h)
    clear h HQ HR
    go_wp2_with fail
    go_ret
    exact ⟨by rw [HT.out]; rfl, HB.out⟩
  · have hd : decide (0 ≤ r) = false := decide_eq_false h
    have HT : Hid (R = false) := by
      show _ = _
      cases R with
      | true => exact absurd (HQ.out.2 (HR.out.1 rfl)) h
      | false => rfl
    clear h HQ HR
    go_wp2_with fail
    go_ret
    exact ⟨by rw [HT.out]; rfl, HB.out⟩
end Go.Proofs.Ytpnhmpmdeoaieaa
