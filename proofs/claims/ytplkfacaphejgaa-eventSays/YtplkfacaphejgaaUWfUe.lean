/-
  What an insertion does to a right store, without the program: it stays one; the order under the node that is put stays; where it stands; taken out again, all is as it was.
-/
import Derived.Test.YtplkfacaphejgaaUWa
import Derived.Test.YtplkfacaphejgaaUWbWdSr
import Derived.Test.YtplkfacaphejgaaUUb
namespace Go.Proofs.Ytplkfacaphejgaa
open Go.RowKit

theorem WF.ringless {S : List Nd} (h : WF S) {x j : Nat} (hx : x < S.length) (h1 : 1 ≤ j) : ¬ Up S j x x := fun hu =>
  h.no_ring hx h1 (by have := h.up_short hx hu; omega) hu

theorem WF.leaveG {S : List Nd} (h : WF S) {ch : Nat} (hch : ch < S.length) : WF (leaveG S ch) := by
  unfold Go.Proofs.Ytplkfacaphejgaa.leaveG
  split
  · exact h
  · rename_i hp
    obtain ⟨pa, e, _⟩ := h.parent_place hch hp
    rw [e, Int.toNat_natCast]
    exact h.leave hch e

theorem leaveG_u (S : List Nd) (ch j : Nat) : (nd (leaveG S ch) j).u = (nd S j).u ∧ (nd (leaveG S ch) j).n = (nd S j).n ∧ (nd (leaveG S ch) j).h = (nd S j).h ∧ (nd (leaveG S ch) j).t = (nd S j).t ∧ (nd (leaveG S ch) j).m = (nd S j).m ∧ (nd (leaveG S ch) j).c = (nd S j).c := by
  unfold leaveG
  split
  · exact ⟨rfl, rfl, rfl, rfl, rfl, rfl⟩
  · exact leave_u S _ ch j

theorem leaveG_p (S : List Nd) {ch j : Nat} (hj : j < S.length) : (nd (leaveG S ch) j).p = if j = ch then -1 else (nd S j).p := by
  unfold leaveG
  split
  · rename_i h
    split
    · rename_i e; rw [e]; exact h
    · rfl
  · exact leave_p S hj

theorem leaveG_ks {S : List Nd} (h : WF S) {ch j : Nat} (hch : ch < S.length) (hj : j < S.length) (hne : (nd S ch).p ≠ j) : (nd (leaveG S ch) j).ks = (nd S j).ks := by
  unfold leaveG
  split
  · rfl
  · rename_i hp
    obtain ⟨pa, e, _, hpc, _⟩ := h.parent_place hch hp
    rw [e, Int.toNat_natCast, leave_ks S hpc hj, if_neg (by omega)]

theorem leaveG_under {S : List Nd} {pa ch : Nat} (hpa : pa < S.length) (hu : underB S pa ch = false) : underB (leaveG S ch) pa ch = false := by
  cases hb : underB (leaveG S ch) pa ch with
  | false => rfl
  | true =>
    have hl := leaveG_length S ch
    obtain ⟨j, j1, j2, j3⟩ := under_up (by rw [hl]; exact hpa) hb
    rw [hl] at j2
    have : Up S j pa ch := up_same hl (fun y hy z hz => by
      unfold rightUnder at *
      rw [(leaveG_u S ch y).2.2.1, leaveG_p S hy] at hz
      by_cases e1 : y = ch
      · subst e1
        rw [if_pos rfl] at hz
        by_cases hh : (nd S y).h = -1
        · rw [if_pos hh] at hz
          omega
        · rw [if_neg hh] at hz ⊢
          exact hz
      · rw [if_neg e1] at hz
        exact hz) hpa j3
    rw [up_under hpa j1 j2 this] at hu
    cases hu

theorem fits_parts {S : List Nd} {ch pa : Nat} (h : fitsB S ch pa = true) : (nd S ch).h = -1 ∧ pa ≠ ch ∧ underB S pa ch = false := by
  unfold fitsB at h
  simp only [Bool.and_eq_true, Bool.not_eq_true', decide_eq_true_eq, decide_eq_false_iff_not] at h
  exact ⟨h.1, fun e => h.2.1 (by rw [e]), h.2.2⟩

structure Puts (S : List Nd) (pa ch : Nat) : Prop where
  wf : WF S
  hpa : pa < S.length
  hch : ch < S.length
  hpu : (nd S pa).u = true
  hcu : (nd S ch).u = true
  fits : fitsB S ch pa = true

theorem Puts.insert {S : List Nd} {pa ch : Nat} (h : Puts S pa ch) (at' : Nat) : WF (enterS (leaveG S ch) pa ch at') := by
  obtain ⟨f1, f2, f3⟩ := fits_parts h.fits
  have hl := leaveG_length S ch
  refine (h.wf.leaveG h.hch).enter (by rw [hl]; exact h.hpa) (by rw [hl]; exact h.hch) ?_ ?_ ?_ ?_ f2 (leaveG_under h.hpa f3)
  · rw [(leaveG_u S ch pa).1]; exact h.hpu
  · rw [(leaveG_u S ch ch).1]; exact h.hcu
  · rw [leaveG_p S h.hch, if_pos rfl]
  · rw [(leaveG_u S ch ch).2.2.1]; exact f1

theorem orderF_congr {S A : List Nd} : ∀ {f p : Nat}, (∀ y ∈ orderF S f p, (nd A y.toNat).ks = (nd S y.toNat).ks) → orderF A f p = orderF S f p
  | 0, _, _ => rfl
  | f + 1, p, h => by
    have hp : (nd A p).ks = (nd S p).ks := by
      have := h (p : Int) (by simp [orderF])
      simpa using this
    simp only [orderF, hp]
    congr 1
    have : ∀ l : List Int, (∀ k ∈ l, k ∈ (nd S p).ks) → l.flatMap (fun k => orderF A f k.toNat) = l.flatMap (fun k => orderF S f k.toNat) := by
      intro l
      induction l with
      | nil => intro _; rfl
      | cons k l ih =>
        intro hk
        rw [List.flatMap_cons, List.flatMap_cons, ih (fun x hx => hk x (by simp [hx])), orderF_congr (fun y hy => h y (by
          simp only [orderF, List.mem_cons, List.mem_flatMap]
          exact Or.inr ⟨k, hk k (by simp), hy⟩))]
    exact this _ (fun _ hk => hk)

theorem Puts.order {S : List Nd} {pa ch : Nat} (h : Puts S pa ch) (at' : Nat) : orderS (enterS (leaveG S ch) pa ch at') ch = orderS S ch := by
  obtain ⟨f1, f2, f3⟩ := fits_parts h.fits
  have hl := leaveG_length S ch
  unfold orderS
  rw [enterS_length, hl]
  refine orderF_congr (fun y hy => ?_)
  obtain ⟨q, rfl, hq, _, j, _, hup⟩ := mem_order h.wf h.hch (h.wf.deep_all h.hch) y hy
  rw [Int.toNat_natCast, enter_ks _ f2 (by rw [hl]; exact hq), if_neg, leaveG_ks h.wf h.hch hq]
  · intro e
    obtain ⟨p0, e0, hp0, _, hin, _⟩ := h.wf.parent_place h.hch (by omega)
    have : p0 = q := by omega
    subst this
    obtain ⟨k, ek, _, _, _, hr⟩ := h.wf.kid hp0 hin
    have : k = ch := by omega
    subst this
    exact h.wf.ringless h.hch (j := 1 + j) (by omega) ((WF.up_one hp0 hr).trans hup)
  · rintro rfl
    cases j with
    | zero => exact f2 hup
    | succ j =>
      rw [up_under hq (by omega) (by have := h.wf.up_short hq hup; omega) hup] at f3
      cases f3

theorem idx_ins {ks : List Int} {i : Nat} {c : Int} (hi : i ≤ ks.length) (hc : c ∉ ks) : idx (ins ks i c) c = i := by
  refine (idx_some (k := i) (by rw [ins_length _ _ _ hi]; omega) (ins_here ks i c hi) (fun j hj e => ?_)).1
  rw [ins_low ks i j c hi hj, getD_elem ks 0 (by omega)] at e
  exact hc (by rw [← e]; exact List.getElem_mem _)

theorem idx_lt {ks : List Int} {v : Int} (h : v ∈ ks) : ∃ k : Nat, idx ks v = k ∧ k < ks.length ∧ ks.getD k 0 = v := by
  refine ⟨ks.idxOf v, by unfold idx; rw [if_pos h], List.idxOf_lt_length_of_mem h, ?_⟩
  rw [getD_elem ks 0 (List.idxOf_lt_length_of_mem h)]
  exact List.getElem_idxOf (List.idxOf_lt_length_of_mem h)

theorem Puts.kids {S : List Nd} {pa ch : Nat} (h : Puts S pa ch) (at' : Nat) : (nd (enterS (leaveG S ch) pa ch at') pa).ks = ins (nd (leaveG S ch) pa).ks at' ch ∧ (ch : Int) ∉ (nd (leaveG S ch) pa).ks := by
  obtain ⟨f1, f2, f3⟩ := fits_parts h.fits
  have hl := leaveG_length S ch
  refine ⟨by rw [enter_ks _ f2 (by rw [hl]; exact h.hpa), if_pos rfl], (h.wf.leaveG h.hch).not_kid (by rw [leaveG_p S h.hch, if_pos rfl]) (by rw [hl]; exact h.hpa)⟩

theorem flt_ins {ks : List Int} {i : Nat} {c : Int} (hc : c ∉ ks) : flt (fun x => decide (x = c)) (ins ks i c) = ks := by
  unfold flt ins
  have key : ∀ l : List Int, (∀ x ∈ l, x ∈ ks) → l.filter (fun x => !decide (x = c)) = l := fun l hl => by
    rw [List.filter_eq_self]
    intro x hx
    have : x ≠ c := fun e => hc (by rw [← e]; exact hl x hx)
    simp [this]
  rw [List.filter_append, List.filter_cons, key _ (fun x hx => List.mem_of_mem_take hx), key _ (fun x hx => List.mem_of_mem_drop hx)]
  simp

/-- Put where it stood nowhere, and taken out: as it was. -/
theorem Puts.back {S : List Nd} {pa ch : Nat} (h : Puts S pa ch) (at' : Nat) (hp : (nd S ch).p = -1) : leaveS (enterS (leaveG S ch) pa ch at') pa ch = S := by
  obtain ⟨f1, f2, f3⟩ := fits_parts h.fits
  have hG : leaveG S ch = S := by unfold leaveG; rw [if_pos hp]
  have hn := (h.kids at').2
  rw [hG] at hn ⊢
  have hl1 : (enterS S pa ch at').length = S.length := enterS_length _ _ _ _
  have hl2 : (leaveS (enterS S pa ch at') pa ch).length = S.length := by rw [leaveS_length, hl1]
  refine List.ext_getElem hl2 fun i hi hi' => ?_
  rw [← nd_elem hi, ← nd_elem hi']
  rw [nd_leaveS _ _ _ _ (by rw [hl1]; exact hi')]
  unfold leaveNd
  split
  · rename_i e
    subst e
    obtain ⟨u1, u2, u3, u4, u5, u6⟩ := enter_u S pa i at' i
    rw [u1, u2, u3, u4, u5, u6, enter_ks S f2 hi', if_neg (fun e => f2 e.symm)]
    cases hx : nd S i
    rw [hx] at hp
    simp only at hp
    rw [hp]
  · rename_i e1
    split
    · rename_i e
      subst e
      obtain ⟨u1, u2, u3, u4, u5, u6⟩ := enter_u S i ch at' i
      rw [u1, u2, u3, u4, u5, u6, enter_p S hi', if_neg e1, enter_ks S f2 hi', if_pos rfl, flt_ins hn]
    · rename_i e2
      rw [nd_enterS S pa ch at' i hi']
      unfold enterNd
      rw [if_neg e1, if_neg e2]

/-- Right ahead of q, if that stands under pa. -/
theorem Puts.ahead {S : List Nd} {pa ch q : Nat} (h : Puts S pa ch) (hq : q < S.length) (hqp : (nd S q).p = pa) (hqc : q ≠ ch) : ∃ at' : Nat, idx (nd (leaveG S ch) pa).ks q = at' ∧ at' < (nd (leaveG S ch) pa).ks.length ∧ (nd (leaveG S ch) pa).ks.getD at' 0 = q := by
  have hl := leaveG_length S ch
  have := (h.wf.leaveG h.hch).in_kids (k := q) (y := pa) (by rw [hl]; exact hq) (by rw [leaveG_p S hq, if_neg hqc]; exact hqp)
  exact idx_lt this.2

theorem WF.kids_small {S : List Nd} (h : WF S) {i : Nat} (hi : i < S.length) : (nd S i).ks.length ≤ 24 := by
  have h1 := h.kids_nodup hi
  have := h1.length_le_of_subset (l₂ := (List.range S.length).map (fun k : Nat => (k : Int))) (fun x hx => by
    obtain ⟨k, rfl, hk, _⟩ := h.kid hi hx
    exact List.mem_map.2 ⟨k, List.mem_range.2 hk, rfl⟩)
  rw [List.length_map, List.length_range] at this
  exact Nat.le_trans this h.small

theorem WF.big {S : List Nd} (h : WF S) : Big S := fun _ hi => Nat.le_trans (h.kids_small hi) (by omega)

theorem holds_used {S : List Nd} {k : Nat} {u : Int} (hk : k < S.length) (hu : (nd S k).u = true) (hn : (nd S k).n = u) (h : WF S) : holdsE S k u = 0 := by
  have h1 := (node_parts (h.node k hk)).1
  have h2 := (node_parts (h.node k hk)).2.2
  unfold formB at h2
  rw [if_pos hu] at h2
  unfold rangeB at h1
  simp only [Bool.and_eq_true, decide_eq_true_eq] at h1
  have h3 : (nd S k).n ≠ 0 := fun e => by rw [if_pos e] at h2; cases h2
  unfold holdsE
  rw [if_pos (show isPl S.length (k : Int) = true from decide_eq_true ⟨by omega, by omega⟩), Int.toNat_natCast]
  unfold holdX
  rw [if_pos (decide_eq_true ⟨by omega, by omega⟩), if_pos hu, if_pos hn]

theorem tcheck_of {S : List Nd} {k : Nat} {u : Int} (hk : k < S.length) (hu : (nd S k).u = true) (hn : (nd S k).n = u) (h : WF S) : tcheckE S [((k : Int), u)] = 0 := by
  unfold tcheckE
  rw [if_pos ((wf_iff S).2 h), hands_single]
  exact holds_used hk hu hn h
end Go.Proofs.Ytplkfacaphejgaa

namespace Go.Proofs.Ytplkfacaphejgaa
open Go.RowKit

set_option maxHeartbeats 400000 in
theorem indexFunc_in (K : Nat) (caps : Array Value) (p : Int → Bool) (a : Option Addr) (c : Nat) (ks : List Int) (w : World) (hbig : ks.length ≤ 9223372036854775807) (hks : IntsAt w a ks)
    (eg : ∀ args w, (callFunc K args).run Try.prog w = .ok (.enter K args) w) (hf : ∀ x ∈ ks, ∀ w1, Below w.heap.size w w1 → Calls Try.prog K (#[.int .i64 x] ++ caps) w1 fun e w2 => e = .returned (.bool (p x)) ∧ Below w1.heap.size w1 w2) :
    Calls Try.prog 75 #[.slice a ks.length c, .func (.func K) #[] caps] w fun e w' => ∃ r : Int, e = .returned (.int .i64 r) ∧ Below w.heap.size w w' ∧
      ((r = -1 ∧ ∀ i, i < ks.length → p (ks.getD i 0) = false) ∨ (∃ k : Nat, k < ks.length ∧ r = k ∧ p (ks.getD k 0) = true ∧ ∀ i, i < k → p (ks.getD i 0) = false)) := by
  generalize hn : ks.length = n at *
  go_enter Try.func75, Try.ntmps75
  go_wp2
  go_loopg [8] n (fun g s8 wr => ∃ k : Nat, k ≤ n ∧ n - k ≤ g ∧ s8 = .int .i64 k ∧ Below w.heap.size w wr ∧ Hid (∀ i, i < k → p (ks.getD i 0) = false))
  case atStart => exact ⟨0, by omega, by omega, rfl, Below.refl _ _, fun i hi => by omega⟩
  case round =>
    obtain ⟨k, hk, hg, rfl, hb, A⟩ := hrel
    by_cases hlt : k < n
    · obtain ⟨b, o, rfl, hc⟩ := (hks.below hb) k (by omega)
      have hcall := hf (ks.getD k 0) (by rw [getD_elem ks 0 (by omega)]; exact List.getElem_mem _) wr hb
      have KS : Hid (IntsAt w (some ⟨b, o, none⟩) ks) := hks
      clear hks hf
      generalize hy : ks.getD k 0 = y at hc hcall
      have Y : Hid (ks.getD k 0 = y) := hy
      clear hy
      cases hq : p y with
      | true =>
        rw [hq] at hcall
        go_wp2_with (go_at_fn K; refine hcall.mono ?_; rintro e w' ⟨rfl, hb2⟩)
        go_ret
        exact ⟨k, rfl, hb.trans (hb2.mono hb.size), Or.inr ⟨k, hlt, rfl, by rw [Y.out]; exact hq, A.out⟩⟩
      | false =>
        rw [hq] at hcall
        go_wp2_with (go_at_fn K; refine hcall.mono ?_; rintro e w' ⟨rfl, hb2⟩)
        go_roundg (n - (k + 1))
        case measure => omega
        case rel =>
          refine ⟨k + 1, by omega, by omega, by go_num, hb.trans (hb2.mono hb.size), (show Hid _ from fun i hi => ?_)⟩
          by_cases e : i = k
          · subst e
            rw [Y.out]; exact hq
          · exact A.out i (by omega)
    · have : k = n := by omega
      subst this
      clear hks hf
      go_wp2
      go_ret
      exact ⟨-1, rfl, hb, Or.inl ⟨rfl, A.out⟩⟩


set_option maxHeartbeats 2000000 in
theorem deleteFunc_in (K : Nat) (caps : Array Value) (p : Int → Bool) (kb L cap : Nat) (ks : List Int) (G : Nat → Value) (w : World) (hL : ks.length = L) (hc : L ≤ cap) (hsm : cap ≤ 9223372036854775807) (hG : w.rowIs kb 3 cap G) (hGk : ∀ j, j < L → G j = .int .i64 (ks.getD j 0))
    (eg : ∀ args w, (callFunc K args).run Try.prog w = .ok (.enter K args) w) (hT : ∀ x ∈ ks, ∀ w1, Off (fun b => b = kb) w w1 → Calls Try.prog K (#[.int .i64 x] ++ caps) w1 fun e w2 => e = .returned (.bool (p x)) ∧ Below w1.heap.size w1 w2) :
    Calls Try.prog 64 #[.slice (some ⟨kb, 0, none⟩) L cap, .func (.func K) #[] caps] w (Deleted w kb cap (flt p ks)) := by
  have di := indexFunc_in K caps p (some ⟨kb, 0, none⟩) cap ks w (by omega) (ints_of_row hG (by omega) (by rw [hL]; exact hGk)) eg (fun x hx w1 hb => hT x hx w1 (Off.of_below hb))
  rw [hL] at di
  have HG : Hid (w.rowIs kb 3 cap G) := hG
  have HGk : Hid _ := hGk
  have HT : Hid _ := hT
  have HL : Hid _ := hL
  have hkb := hG.lt
  clear hG hGk hT hL
  go_enter Try.func64, Try.ntmps64
  go_wp2_with fail
  refine di.mono ?_
  rintro e w1 ⟨r, rfl, hb1, hr⟩
  clear di
  rcases hr with ⟨rfl, hall⟩ | ⟨k, hk, rfl, hp, hf⟩
  · have hfl := flt_all p ks (by rw [HL.out]; exact hall)
    have E : Hid _ := hfl
    clear hall hfl
    go_wp2
    go_ret
    refine ⟨by rw [E.out, HL.out]; rfl, Off.of_below hb1, G, HG.out.of_block (hb1.block kb hkb), fun j hj => ?_⟩
    rw [E.out] at hj ⊢
    exact HGk.out j (by rw [← HL.out]; exact hj)
  · have hk1 : ((k : Int) == -1) = false := beq_eq_false_iff_ne.2 (by omega)
    have F0 : Hid (flt p (ks.take (k + 1)) = ks.take k) := by
      show _ = _
      rw [flt_succ p ks k (by rw [HL.out]; exact hk), hp, if_pos rfl, List.append_nil]
      refine flt_all p _ (fun i hi => ?_)
      rw [List.length_take] at hi
      have hks := HL.out
      have h1 := hf i (by omega)
      rw [getD_elem ks 0 (by omega)] at h1
      rw [getD_elem (ks.take k) 0 (by rw [List.length_take]; omega), List.getElem_take]
      exact h1
    have HR0 : Hid (w1.rowIs kb 3 cap G) := HG.out.of_block (hb1.block kb hkb)
    have FI : Hid (∀ t, t < k → G t = .int .i64 ((flt p (ks.take (k + 1))).getD t 0)) := fun t ht => by
      have hks := HL.out
      rw [F0.out, HGk.out t (by omega), getD_elem ks 0 (by omega), getD_elem (ks.take k) 0 (by rw [List.length_take]; omega), List.getElem_take]
    have FL : Hid ((flt p (ks.take (k + 1))).length = k) := by
      have hks := HL.out
      show _ = _
      rw [F0.out, List.length_take]; omega
    have O1 : Hid (Off (fun b => b = kb) w w1) := Off.of_below hb1
    clear hp hf hb1
    go_wp2
    go_loopg [5, 6] L (fun g1 s5 s6 wr => ∃ (i j : Nat) (G2 : Nat → Value), i < j ∧ j ≤ L ∧ L - j ≤ g1 ∧ s5 = .int .i64 i ∧ s6 = .int .i64 j ∧ Hid (Off (fun b => b = kb) w wr) ∧ Hid (wr.rowIs kb 3 cap G2) ∧ Hid ((flt p (ks.take j)).length = i) ∧ Hid (∀ t, t < i → G2 t = .int .i64 ((flt p (ks.take j)).getD t 0)) ∧ Hid (∀ t, j ≤ t → t < L → G2 t = .int .i64 (ks.getD t 0)))
    case atStart => exact ⟨k, k + 1, G, by omega, by omega, by omega, rfl, by go_num, O1, HR0, FL, FI, (show Hid _ from fun t _ ht => HGk.out t ht)⟩
    case round =>
      clear HR0 FI FL O1
      obtain ⟨i, j, G2, hij, hjL, hg1, rfl, rfl, O2, R2, L2, I2, J2⟩ := hrel
      have hkw : kb < wr.heap.size := R2.out.lt
      have hfz := R2.out.frozen
      by_cases hlt : j < L
      · have hlt2 : (j : Int) < (L : Int) := by omega
        have cj := R2.out.cell (i := j) (by omega)
        rw [J2.out j (Nat.le_refl _) hlt] at cj
        have ci := R2.out.cell (i := i) (by omega)
        have hcall := HT.out (ks.getD j 0) (by rw [getD_elem ks 0 (by rw [HL.out]; exact hlt)]; exact List.getElem_mem _) wr O2.out
        have FS := flt_succ p ks j (by rw [HL.out]; exact hlt)
        generalize hy : ks.getD j 0 = y at *
        have HY : Hid _ := hy
        clear hy
        cases hq : p y with
        | true =>
          rw [hq] at hcall FS
          rw [if_pos rfl, List.append_nil] at FS
          have HFS : Hid _ := FS
          clear FS
          go_wp2_with (go_at_fn K; refine hcall.mono ?_; rintro e w2 ⟨rfl, hb2⟩)
          go_roundg (L - (j + 1))
          case measure => omega
          case rel => exact ⟨i, j + 1, G2, by omega, by omega, by omega, rfl, by go_num, O2.out.trans (Off.of_below hb2), R2.out.of_block (hb2.block kb hkw), (show _ = _ by rw [HFS.out]; exact L2.out), (show Hid _ from fun t ht => by rw [HFS.out]; exact I2.out t ht), (show Hid _ from fun t h1 h2 => J2.out t (by omega) h2)⟩
        | false =>
          rw [hq] at hcall FS
          rw [if_neg (by simp)] at FS
          have HFS : Hid _ := FS
          clear FS
          go_wp2_with (go_at_fn K; refine hcall.mono ?_; rintro e w2 ⟨rfl, hb2⟩; have ci2 := (hb2.cell (by exact hkw)).trans ci; have hfz2 := fun o => (hb2.frozen (by exact hkw)).trans (hfz o))
          go_roundg (L - (j + 1))
          case measure => omega
          case rel =>
            refine ⟨i + 1, j + 1, _, by omega, by omega, by omega, by go_num, by go_num, (O2.out.trans (Off.of_below hb2)).trans (off_setCell (X := fun b => b = kb) _ rfl _), (R2.out.of_block (hb2.block kb hkw)).set i (.int .i64 y), (show _ = _ by rw [HFS.out, List.length_append, L2.out]; rfl), (show Hid _ from fun t ht => ?_), (show Hid _ from fun t h1 h2 => ?_)⟩
            · rw [HFS.out]
              by_cases e : t = i
              · subst e
                rw [if_pos rfl]
                simp [List.getD, L2.out]
              · rw [if_neg e, I2.out t (by omega)]
                simp [List.getD, List.getElem?_append, L2.out, show t < i by omega]
            · rw [if_neg (by omega)]
              exact J2.out t (by omega) h2
      · have hjL2 : j = L := by omega
        subst hjL2
        have hic : (i : Int) ≤ (cap : Int) := by omega
        have hiL : (i : Int) ≤ (j : Int) := by omega
        have EF : Hid (flt p (ks.take j) = flt p ks) := by
          show _ = _
          rw [← HL.out, List.take_length]
        have hcl : ∀ ty, (Builtin.clear_ #[41] ty #[.slice (some ⟨kb, i, none⟩) (j - i) (cap - i)]).run Try.prog wr = .ok (.tuple #[]) (wr.setCells kb i (List.replicate (j - i) (.int .i64 0))) := fun ty => Lib.run_clear_slice wr 41 3 ty (.int .i64 0) Try.underlying41 Try.zeroValue3 rfl rfl kb i (j - i) (cap - i) (by omega) (fun t ht => by rw [R2.out.cell (by omega)]; rfl) (fun t ht => hfz _)
        go_wp2
        go_ret
        refine ⟨?_, O2.out.trans (off_setCells (X := fun b => b = kb) rfl _ _ _), _, row_setCells _ _ _ _ R2.out, fun t ht => ?_⟩
        · rw [← EF.out, L2.out]; rfl
        · rw [← EF.out, L2.out] at ht
          rw [if_neg (by omega), I2.out t ht, EF.out]

theorem deleteFunc_nil (K : Nat) (caps : Array Value) (w : World) (eg : ∀ args w, (callFunc K args).run Try.prog w = .ok (.enter K args) w) :
    Calls Try.prog 64 #[.slice none 0 0, .func (.func K) #[] caps] w fun e w' => e = .returned (.slice none 0 0) ∧ Below w.heap.size w w' := by
  have di := indexFunc_in K caps (fun _ => true) none 0 [] w (by simp) (fun i hi => absurd hi (Nat.not_lt_zero _)) eg (fun x hx => by cases hx)
  go_enter Try.func64, Try.ntmps64
  go_wp2_with fail
  refine di.mono ?_
  rintro e w1 ⟨r, rfl, hb1, hr⟩
  have hr1 : r = -1 := by
    rcases hr with ⟨h, _⟩ | ⟨k, hk, _⟩
    · exact h
    · exact absurd hk (Nat.not_lt_zero _)
  subst hr1
  clear hr di
  go_wp2
  go_ret
  exact ⟨rfl, hb1⟩
end Go.Proofs.Ytplkfacaphejgaa
