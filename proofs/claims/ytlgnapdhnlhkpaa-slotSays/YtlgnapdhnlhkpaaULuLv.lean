/-
  The reference's SlotsOf of any node, and GivenTo.
-/
import Derived.Test.YtlgnapdhnlhkpaaULt
import Derived.Test.YtlgnapdhnlhkpaaULiRhRp
namespace Go.Proofs.Ytlgnapdhnlhkpaa
open Go.RowKit

set_option maxRecDepth 100000 in
set_option maxHeartbeats 1000000 in
theorem rSlots_no (a : Option Addr) (c : Nat) (S : List Nd) (H : Nat) (w : World) (hN : S.length ≤ 9223372036854775807) (hS : NdsAt w a S) (hr : rootE S H = -1) :
    Calls Try.prog 14 #[.agg #[.slice a S.length c], .int .i64 (H : Int)] w fun e w' => e = .returned (.slice none 0 0) ∧ Below w.heap.size w w' := by
  have d := fun (W : World) (hW : NdsAt W a S) => rRootOf_any a c S (H : Int) W hN (by omega) hW
  rw [hr] at d
  have D : Hid _ := d
  have HS : Hid (NdsAt w a S) := hS
  clear d hS hr
  generalize S.length = n at *
  go_enter Try.func14, Try.ntmps14
  go_wp2_with fail
  refine Calls.mono (D.out _ (HS.out.below (one_belowS _ _))) ?_
  rintro e w1 ⟨rfl, hb⟩
  have HB : Hid (Below w.heap.size w w1) := (one_belowS w _).trans (hb.mono (by simp))
  clear hb
  go_wp2_with fail
  go_ret
  exact ⟨rfl, HB.out⟩

theorem rSlots_all (a : Option Addr) (c : Nat) (S : List Nd) (H : Nat) (w : World) (wf : WF S) (hC : RChk a c S) (hH : H < S.length) (hS : NdsAt w a S) :
    Calls Try.prog 14 #[.agg #[.slice a S.length c], .int .i64 (H : Int)] w fun e w' => ∃ v K, e = .returned v ∧ Below w.heap.size w w' ∧ OwnS w.heap.size (slotsF S H) K v w' := by
  by_cases hr : rootE S H = -1
  · refine (rSlots_no a c S H w (by have := wf.small; omega) hS hr).mono fun e w' ⟨he, hb⟩ => ?_
    have e0 : slotsF S H = [] := by unfold slotsF; rw [if_pos hr]
    refine ⟨_, fun _ => .slice none 0 0, he, hb, ?_⟩
    rw [e0]
    exact ⟨World.ownsRow_nil _ _ _ _, fun i hi => by cases hi⟩
  · obtain ⟨r, h1, h2, h3, _⟩ := rootE_cases S H hr
    exact rSlots_ok a c S H r w wf hC hH h1 h2 h3 hS

set_option maxRecDepth 100000 in
set_option maxHeartbeats 2000000 in
theorem rTo_any (a : Option Addr) (c : Nat) (S : List Nd) (k : Nat) (w : World) (wf : WF S) (hC : RChk a c S) (hk : k < S.length) (hS : NdsAt w a S) :
    Calls Try.prog 12 #[.agg #[.slice a S.length c], .int .i64 (k : Int)] w fun e w' => e = .returned (.int .i64 (toF S k)) ∧ Below w.heap.size w w' := by
  have hN := wf.small
  obtain ⟨nb, no, ea, _, _, _, _, c4, _⟩ := hS k hk
  subst ea
  by_cases hp : (nd S k).p = -1
  · have hT : toF S k = -1 := by unfold toF slotsP; rw [if_pos hp]; rfl
    rw [hT]
    rw [hp] at c4
    have hk2 : (k : Int) < (S.length : Int) := by omega
    have hnb := World.block_lt_of_cell? _ _ c4
    clear hS hT hp
    generalize S.length = n at *
    go_enter Try.func12, Try.ntmps12
    go_wp2_with fail
    go_ret
    exact ⟨rfl, one_belowS _ _⟩
  · obtain ⟨pa, ep, hpa, _⟩ := wf.parent_place hk hp
    have hP : slotsP S k = slotsF S pa := by unfold slotsP; rw [if_neg hp, ep, Int.toNat_natCast]
    have DG : Hid (∀ W, NdsAt W (some ⟨nb, no, none⟩) S → Calls _ _ _ _ _) := fun W hW => rSlots_all (some ⟨nb, no, none⟩) c S pa W wf hC hpa hW
    have FW := slotsF_few wf pa
    have GL : Hid (∀ i, i < (slotsF S pa).length → (slt (slotsF S pa) i).gv.length ≤ 24) := fun i hi => by
      have := slotsP_gv wf hk (i := i) (by rw [hP]; exact hi)
      rwa [hP] at this
    have TF : Hid (toF S k = toL (slotsF S pa) k) := by show _ = _; unfold toF; rw [hP]
    have HS : Hid (NdsAt w (some ⟨nb, no, none⟩) S) := hS
    rw [ep] at c4
    have hk2 : (k : Int) < (S.length : Int) := by omega
    have hnb := World.block_lt_of_cell? _ _ c4
    have hq1 : ((pa : Int) == -1) = false := by simp
    have hq2 : decide ((pa : Int) = -1) = false := by simp
    clear hS hP wf hC ep hp
    generalize toF S k = R at *
    generalize slotsF S pa = L at *
    generalize S.length = n at *
    go_enter Try.func12, Try.ntmps12
    go_wp2_with fail
    refine Calls.mono (DG.out _ (HS.out.below (one_belowS _ _))) ?_
    rintro e w2 ⟨v, K, rfl, hb, hO⟩
    have HB2 : Hid (Below w.heap.size w w2) := (one_belowS w _).trans (hb.mono (by simp))
    obtain ⟨qa, qc, hv, hsl⟩ := OwnS.slts hO
    subst hv
    have HSL : Hid (SltsAt w2 qa L) := hsl
    obtain ⟨m, hm⟩ : ∃ z, L.length = z := ⟨_, rfl⟩
    have HM : Hid (L.length = m) := hm
    rw [hm] at FW GL ⊢
    clear hb hO DG hsl hm
    go_wp2_with fail
    go_loopg [20] m (fun g s20 wr => ∃ i : Nat, i ≤ m ∧ m - i ≤ g ∧ s20 = .int .i64 i ∧ Hid (Below w2.heap.size w2 wr) ∧ Hid (∀ j, j < i → (k : Int) ∉ (slt L j).gv))
    case atStart => exact ⟨0, by omega, by omega, rfl, Below.refl _ _, fun j hj => absurd hj (Nat.not_lt_zero _)⟩
    case round =>
      obtain ⟨i, hi, hg, rfl, HB3, NF⟩ := hrel
      by_cases hlt : i < m
      · have hlt2 : (i : Int) < (m : Int) := by omega
        obtain ⟨b, o, ea, f0, f1, ga, gc, f2, hin⟩ := (HSL.out.below HB3.out) i (by rw [HM.out]; exact hlt)
        subst ea
        have gl := GL.out i hlt
        have TS : Hid ((k : Int) ∈ (slt L i).gv → R = (slt L i).pl) := fun h => TF.out.trans (toL_some (by rw [HM.out]; exact hlt) h NF.out)
        have CT : Hid (∀ W, IntsAt W ga (slt L i).gv → Calls _ _ _ _ _) := fun W hW => contains_any ga gc (slt L i).gv (k : Int) W (by omega) hW
        have HIN : Hid (IntsAt wr ga (slt L i).gv) := hin
        have NX : Hid ((k : Int) ∉ (slt L i).gv → ∀ j, j < i + 1 → (k : Int) ∉ (slt L j).gv) := fun h j hj => by
          by_cases e : j = i
          · subst e; exact h
          · exact NF.out j (by omega)
        clear hin NF
        generalize slt L i = s at *
        obtain ⟨spl, snum, sgv⟩ := s
        dsimp only at f0 f1 f2 TS CT HIN NX gl
        obtain ⟨sl, hsl⟩ : ∃ z, sgv.length = z := ⟨_, rfl⟩
        rw [hsl] at f2 CT
        clear hsl gl
        go_wp2_with fail
        refine Calls.mono (CT.out _ (HIN.out.below (one_belowS _ _))) ?_
        rintro e w4 ⟨rfl, hw4⟩
        subst hw4
        have HBF : Hid (∀ o1, Below w.heap.size w (wr.alloc o1)) := fun o1 => (HB2.out.trans (HB3.out.mono HB2.out.size)).trans ((one_belowS _ _).mono (HB2.out.trans (HB3.out.mono HB2.out.size)).size)
        by_cases hin : (k : Int) ∈ sgv
        · rw [decide_eq_true hin]
          have HR : Hid (R = spl) := TS.out hin
          clear TS NX hin CT
          go_wp2_with fail
          go_ret
          exact ⟨by rw [HR.out]; rfl, HBF.out _⟩
        · rw [decide_eq_false hin]
          have NX2 : Hid (∀ j, j < i + 1 → (k : Int) ∉ (slt L j).gv) := NX.out hin
          clear TS NX hin CT
          go_wp2_with fail
          go_roundg (m - (i + 1))
          case measure => omega
          case rel => exact ⟨i + 1, by omega, by omega, by go_num, HB3.out.trans ((one_belowS _ _).mono HB3.out.size), NX2⟩
      · have hie : m = i := by omega
        subst hie
        have HR : Hid (R = -1) := TF.out.trans (toL_none (fun j hj => NF.out j (by rw [← HM.out]; exact hj)))
        clear NF
        go_wp2_with fail
        go_ret
        exact ⟨by rw [HR.out]; rfl, HB2.out.trans (HB3.out.mono HB2.out.size)⟩
end Go.Proofs.Ytlgnapdhnlhkpaa

namespace Go.Proofs.Ytlgnapdhnlhkpaa
open Go.RowKit

theorem ord_roots {S : List Nd} (h : WF S) : ∀ {f p : Nat}, p < S.length → ∀ x ∈ orderF S f p, ∃ q : Nat, x = q ∧ q < S.length ∧ ∃ pre, pathF S q = pre ++ pathF S p ∧ ∀ y ∈ pre, (nd S y.toNat).h = -1
  | 0, p, hp, x, hx => ⟨p, by simpa [orderF] using hx, hp, [], rfl, fun y hy => by cases hy⟩
  | f + 1, p, hp, x, hx => by
    simp only [orderF, List.mem_cons, List.mem_flatMap] at hx
    rcases hx with rfl | ⟨k, hk, hx⟩
    · exact ⟨p, rfl, hp, [], rfl, fun y hy => by cases hy⟩
    · obtain ⟨kn, rfl, hkn, _, hkp, hru⟩ := h.kid hp hk
      rw [Int.toNat_natCast] at hx
      obtain ⟨q, e, hq, pre, hpre, hno⟩ := ord_roots h hkn x hx
      have hup := h.path_up hkn hp hru
      refine ⟨q, e, hq, pre ++ [(kn : Int)], by rw [hpre, hup]; simp, fun y hy => ?_⟩
      rcases List.mem_append.1 hy with h1 | h1
      · exact hno y h1
      · have : y = (kn : Int) := by simpa using h1
        rw [this, Int.toNat_natCast]
        exact (h.host_of_parent hkn (by rw [hkp]; omega)).1

/-- A slot's place: the first root of its line is the one that it is a slot of. -/
theorem slot_first {S : List Nd} (h : WF S) {H : Nat} {s : Slt} (hs : s ∈ slotsF S H) {k : Nat} (hk : s.pl = k) : ∃ r rest, k < S.length ∧ r < S.length ∧ (nd S r).h = H ∧ rootsL S k = (r : Int) :: rest := by
  obtain ⟨r, k', _, r1, r2, r3, r4, r5, _, _, _, _, hm⟩ := slotsF_mem h hs
  have hkk : k = k' := by omega
  subst hkk
  obtain ⟨hmem, _⟩ := slots_mem _ s hm
  obtain ⟨q, e, hq, pre, hpre, hno⟩ := ord_roots h r1 _ hmem
  have hqk : q = k := by omega
  subst hqk
  refine ⟨r, flt (noRootB S) (lineF S S.length (rightUnder (nd S r))), hq, r1, r2, ?_⟩
  unfold rootsL
  rw [hpre]
  unfold flt
  rw [List.filter_append]
  have e1 : pre.filter (fun x => !noRootB S x) = [] := by
    rw [List.filter_eq_nil_iff]
    intro y hy
    unfold noRootB
    have := hno y hy
    simp [this]
  rw [e1, List.nil_append]
  unfold pathF
  rw [List.filter_cons, if_pos]
  unfold noRootB
  rw [Int.toNat_natCast, r2]
  simp

theorem slot_host {S : List Nd} (h : WF S) {H H' : Nat} {s s' : Slt} (hs : s ∈ slotsF S H) (hs' : s' ∈ slotsF S H') (e : s.pl = s'.pl) : H = H' := by
  obtain ⟨r0, k, _, _, _, _, ek, _⟩ := slotsF_mem h hs
  obtain ⟨r, _, _, _, h1, e1⟩ := slot_first h hs ek
  obtain ⟨r', _, _, _, h2, e2⟩ := slot_first h hs' (e.symm.trans ek)
  rw [e1] at e2
  have : r = r' := by have := (List.cons.inj e2).1; omega
  subst this
  omega

theorem slot_same {S : List Nd} (h : WF S) {H : Nat} {s s' : Slt} (hs : s ∈ slotsF S H) (hs' : s' ∈ slotsF S H) (e : s.pl = s'.pl) : s = s' := by
  have nd1 := nodup_filter_pl h (H := H)
  obtain ⟨i, hi, rfl⟩ := List.getElem_of_mem hs
  obtain ⟨j, hj, rfl⟩ := List.getElem_of_mem hs'
  have hp := List.pairwise_iff_getElem.1 (List.nodup_iff_pairwise_ne.1 nd1)
  rcases Nat.lt_trichotomy i j with h1 | h1 | h1
  · have := hp i j (by rw [List.length_map]; exact hi) (by rw [List.length_map]; exact hj) h1
    rw [List.getElem_map, List.getElem_map] at this
    exact absurd e this
  · subst h1; rfl
  · have := hp j i (by rw [List.length_map]; exact hj) (by rw [List.length_map]; exact hi) h1
    rw [List.getElem_map, List.getElem_map] at this
    exact absurd e.symm this

/-- What is given at a slot's place. -/
theorem giv_slot {S : List Nd} (h : WF S) {H : Nat} {s : Slt} (hs : s ∈ slotsF S H) {k : Nat} (hk : s.pl = k) : ∀ m, givT S m k = if H < m then s.gv else []
  | 0 => by rw [if_neg (by omega)]; rfl
  | m + 1 => by
    rw [givT]
    cases hf : (slotsF S m).find? (fun s => decide (s.pl = (k : Int))) with
    | some s' =>
      have h1 := List.mem_of_find?_eq_some hf
      have h2 := List.find?_some hf
      have h3 : s'.pl = (k : Int) := by simpa using h2
      have hHm := slot_host h hs h1 (hk.trans h3.symm)
      subst hHm
      have := slot_same h hs h1 (hk.trans h3.symm)
      subst this
      rw [if_pos (by omega)]
    | none =>
      have ih := giv_slot h hs hk m
      have hne : m ≠ H := fun e => by
        subst e
        have := List.find?_eq_none.1 hf s hs
        simp [hk] at this
      show givT S m k = _
      rw [ih]
      by_cases h1 : H < m
      · rw [if_pos h1, if_pos (by omega)]
      · rw [if_neg h1, if_neg (by omega)]

theorem to_slot {S : List Nd} (h : WF S) {n k : Nat} (hn : n < S.length) (hk : toF S n = k) : ∃ H s, H < S.length ∧ (nd S n).p = H ∧ s ∈ slotsF S H ∧ s.pl = k ∧ (n : Int) ∈ s.gv := by
  unfold toF toL at hk
  cases hf : (slotsP S n).find? (fun s => decide ((n : Int) ∈ s.gv)) with
  | none => rw [hf] at hk; simp at hk
  | some s =>
    rw [hf] at hk
    have h1 := List.mem_of_find?_eq_some hf
    have h2 := List.find?_some hf
    unfold slotsP at h1
    split at h1
    · cases h1
    · rename_i hp
      obtain ⟨pa, e, hpa, _⟩ := h.parent_place hn hp
      rw [e, Int.toNat_natCast] at h1
      exact ⟨pa, s, hpa, e, h1, hk, by simpa using h2⟩

theorem slot_to {S : List Nd} (h : WF S) {H : Nat} (hH : H < S.length) {s : Slt} (hs : s ∈ slotsF S H) {c : Int} (hc : c ∈ s.gv) : ∃ n : Nat, c = n ∧ n < S.length ∧ (nd S n).u = true ∧ toF S n = s.pl := by
  obtain ⟨i, hi, rfl⟩ := List.getElem_of_mem hs
  rw [← slt_elem hi] at hc ⊢
  obtain ⟨n, e, h1, h2, _, h4, _⟩ := given_facts h hH hi hc
  exact ⟨n, e, h1, h2, h4⟩

/-- Some node is given there: just where something is given. -/
theorem giv_some {S : List Nd} (h : WF S) {k : Nat} : givT S S.length k ≠ [] ↔ ∃ n : Nat, n < S.length ∧ (nd S n).u = true ∧ toF S n = k := by
  constructor
  · intro hne
    obtain ⟨c, hc⟩ := List.exists_mem_of_ne_nil _ hne
    obtain ⟨H, s, h1, h2, h3, h4⟩ := givT_mem hc
    obtain ⟨n, e, h5, h6, h7⟩ := slot_to h h1 h2 h4
    exact ⟨n, h5, h6, h7.trans h3⟩
  · rintro ⟨n, hn, _, hk⟩
    obtain ⟨H, s, hH, _, hs, hpl, hm⟩ := to_slot h hn hk
    rw [giv_slot h hs hpl, if_pos hH]
    exact List.ne_nil_of_mem hm

/-- What is given is those of the host's children that are given there; the host is that of the first root of the line. -/
theorem giv_asked {S : List Nd} (h : WF S) {k : Nat} (hne : givT S S.length k ≠ []) : ∃ r H rest, r < S.length ∧ H < S.length ∧ (nd S r).h = H ∧ rootsL S k = (r : Int) :: rest ∧ givT S S.length k = (nd S H).ks.filter (fun c => decide (toF S c.toNat = (k : Int))) := by
  obtain ⟨n, hn, _, hk⟩ := (giv_some h).1 hne
  obtain ⟨H, s, hH, _, hs, hpl, hm⟩ := to_slot h hn hk
  obtain ⟨r, rest, _, hr, hrh, hroots⟩ := slot_first h hs hpl
  refine ⟨r, H, rest, hr, hH, hrh, hroots, ?_⟩
  rw [giv_slot h hs hpl, if_pos hH]
  obtain ⟨_, _, _, _, _, _, _, _, _, _, _, r6, _⟩ := slotsF_mem h hs
  have hgv := r6.resolve_left (fun e => by rw [e] at hm; cases hm)
  rw [hgv]
  unfold markedF flt
  refine List.filter_congr (fun c hc => ?_)
  obtain ⟨cn, rfl, hcn, _⟩ := h.kid hH hc
  have iff : (cn : Int) ∈ s.gv ↔ toF S cn = k := by
    constructor
    · intro h1
      obtain ⟨n', e, _, _, h4⟩ := slot_to h hH hs h1
      have : cn = n' := by omega
      subst this
      exact h4.trans hpl
    · intro h1
      obtain ⟨H', s', _, hp', hs', hpl', hm'⟩ := to_slot h hcn h1
      have := slot_host h hs hs' (hpl.trans hpl'.symm)
      subst this
      have := slot_same h hs hs' (hpl.trans hpl'.symm)
      subst this
      exact hm'
  rw [Int.toNat_natCast]
  have iff2 : (!notMarkB S s.num (cn : Int)) = true ↔ (cn : Int) ∈ s.gv := by
    rw [hgv, mem_marked]
    unfold notMarkB
    simp [hc]
  rw [Bool.eq_iff_iff, iff2, iff]
  simp
end Go.Proofs.Ytlgnapdhnlhkpaa
