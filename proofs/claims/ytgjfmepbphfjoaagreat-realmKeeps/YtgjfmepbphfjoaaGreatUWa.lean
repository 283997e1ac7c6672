/-
  Right stores stay right when a node leaves its parent's children, or enters another one's: without the program.
-/
import Derived.Test.YtgjfmepbphfjoaaGreatUTdTeSo
import Derived.Test.YtgjfmepbphfjoaaGreatUUbWbWdSr
namespace Go.Proofs.YtgjfmepbphfjoaaGreat
open Go.RowKit

theorem nd_out {S : List Nd} {j : Nat} (h : S.length ≤ j) : nd S j = zeroNd := by
  unfold nd
  rw [List.getD_eq_getElem?_getD, List.getElem?_eq_none h]
  rfl

theorem node_of {N : Int} {x : Nd} (h1 : rangeB x = true) (h2 : namesB N x = true) (h3 : formB x = true) : nodeE N x = 0 := by
  unfold nodeE
  rw [if_pos h1, if_pos h2, if_pos h3]

theorem kidsOk_of {S : List Nd} (hA : ∀ i, i < S.length → (nd S i).ks.Nodup) (hB : ∀ i, i < S.length → ∀ x ∈ (nd S i).ks, ∃ j : Nat, x = j ∧ j < S.length ∧ (nd S j).u = true ∧ (nd S j).p = i)
    (hC : ∀ j, j < S.length → (nd S j).p ≠ -1 → ∃ i : Nat, i < S.length ∧ (j : Int) ∈ (nd S i).ks) : KidsOk S := by
  refine ⟨fun i hi x hx => ?_, fun j hj => ⟨?_, fun hp => ?_⟩⟩
  · obtain ⟨j, rfl, h1, h2, h3⟩ := hB i hi x hx
    exact ⟨by omega, by rw [Int.toNat_natCast]; exact h2, by rw [Int.toNat_natCast]; exact h3⟩
  · have : ∀ k, k ≤ S.length → cntU S k j ≤ 1 ∧ (∀ i : Nat, (nd S j).p = i → k ≤ i → cntU S k j = 0) := by
      intro k
      induction k with
      | zero => intro _; rw [cntU_zero]; exact ⟨by omega, fun _ _ _ => rfl⟩
      | succ k ih =>
        intro hk
        obtain ⟨h1, h2⟩ := ih (by omega)
        rw [cntU_succ S k j (by omega)]
        by_cases hm : (j : Int) ∈ (nd S k).ks
        · obtain ⟨j', e, _, _, hp⟩ := hB k (by omega) _ hm
          have : j' = j := by omega
          subst this
          have h3 := h2 k hp (Nat.le_refl _)
          have h4 := List.nodup_iff_count.1 (hA k (by omega)) (j' : Int)
          exact ⟨by omega, fun i hi hle => by omega⟩
        · rw [List.count_eq_zero.2 hm]
          exact ⟨by omega, fun i hi hle => by have := h2 i hi (by omega); omega⟩
    exact (this S.length (Nat.le_refl _)).1
  · obtain ⟨i, hi, hm⟩ := hC j hj hp
    have h1 := cntU_succ S i j hi
    have h2 := List.count_pos_iff.2 hm
    have h3 := cntU_mono S j (k := i + 1) (k' := S.length) (by omega) (Nat.le_refl _)
    omega

theorem climb_true {S : List Nd} (above : Nat) : ∀ (f : Nat) (y : Int), climbF S rightUnder (underStep above) f y false = true → ∃ (y' : Nat) (j : Nat), y = y' ∧ y' < S.length ∧ j + 1 ≤ f ∧ Up S j y' above
  | 0, _, h => by simp [climbF] at h
  | f + 1, y, h => by
    simp only [climbF] at h
    by_cases hp : isPl S.length y = true
    · have hq : 0 ≤ y ∧ y ≤ (S.length : Int) - 1 := of_decide_eq_true hp
      obtain ⟨y', rfl⟩ : ∃ k : Nat, y = (k : Int) := ⟨y.toNat, by omega⟩
      rw [if_pos hp] at h
      simp only [underStep, Int.toNat_natCast] at h
      by_cases e : (y' : Int) = (above : Int)
      · exact ⟨y', 0, rfl, by omega, by omega, by show y' = above; omega⟩
      · simp only [decide_eq_false e, Bool.not_false, if_true] at h
        obtain ⟨z, j, hz, hz2, hj, hu⟩ := climb_true above f _ h
        exact ⟨y', j + 1, rfl, by omega, by omega, ⟨z, hz2, hz, hu⟩⟩
    · rw [if_neg hp] at h
      cases h

theorem under_up {S : List Nd} {x above : Nat} (hx : x < S.length) (h : underB S x above = true) : ∃ j, 1 ≤ j ∧ j ≤ S.length ∧ Up S j x above := by
  unfold underB at h
  rw [if_pos (show isPl S.length (x : Int) = true from decide_eq_true ⟨by omega, by omega⟩), Int.toNat_natCast] at h
  obtain ⟨y, j, e, hy, hj, hu⟩ := climb_true above _ _ h
  exact ⟨j + 1, by omega, by omega, ⟨y, hy, e, hu⟩⟩

theorem up_under {S : List Nd} {x above j : Nat} (hx : x < S.length) (h1 : 1 ≤ j) (h2 : j ≤ S.length) (h : Up S j x above) : underB S x above = true := by
  obtain ⟨j, rfl⟩ : ∃ i, j = i + 1 := ⟨j - 1, by omega⟩
  unfold underB
  rw [if_pos (show isPl S.length (x : Int) = true from decide_eq_true ⟨by omega, by omega⟩), Int.toNat_natCast, climb_up false h h2]

theorem Up.lt {S : List Nd} : ∀ {j x y : Nat}, x < S.length → Up S j x y → y < S.length
  | 0, _, _, hx, h => by cases h; exact hx
  | _ + 1, _, _, _, ⟨_, h1, _, h3⟩ => Up.lt h1 h3

/-- No way up of a right store is longer than there are places. -/
theorem WF.up_short' {S : List Nd} (h : WF S) : ∀ (j x z : Nat) (r : List Nat), x < S.length → (x :: r).Nodup → (∀ y ∈ r, y < S.length ∧ ∃ i, 1 ≤ i ∧ i ≤ r.length ∧ Up S i y x) → Up S j x z → j + r.length + 1 ≤ S.length
  | 0, x, z, r, hx, hn, hr, _ => by
    have := nodup_le hn (fun y hy => by
      rcases List.mem_cons.1 hy with rfl | hy
      · exact hx
      · exact (hr y hy).1)
    simp at this
    omega
  | j + 1, x, z, r, hx, hn, hr, ⟨y, h1, h2, h3⟩ => by
    have hall : ∀ y ∈ x :: r, y < S.length := fun y hy => by
      rcases List.mem_cons.1 hy with rfl | hy
      · exact hx
      · exact (hr y hy).1
    have hlen := nodup_le hn hall
    simp at hlen
    have hup : ∀ q ∈ x :: r, ∃ i, 1 ≤ i ∧ i ≤ (x :: r).length ∧ Up S i q y := fun q hq => by
      rcases List.mem_cons.1 hq with rfl | hq
      · exact ⟨1, by omega, by simp, WF.up_one h1 h2⟩
      · obtain ⟨_, i, i1, i2, i3⟩ := hr q hq
        exact ⟨i + 1, by omega, by simp; omega, i3.trans (WF.up_one h1 h2)⟩
    have := h.up_short' j y z (x :: r) h1 (List.nodup_cons.2 ⟨fun hm => by
      obtain ⟨i, i1, i2, i3⟩ := hup y hm
      simp at i2
      exact h.no_ring h1 i1 (by omega) i3, hn⟩) (fun q hq => ⟨hall q hq, hup q hq⟩) h3
    simp at this
    omega

theorem WF.up_short {S : List Nd} (h : WF S) {j x z : Nat} (hx : x < S.length) (hu : Up S j x z) : j + 1 ≤ S.length := by
  have := h.up_short' j x z [] hx (by simp) (fun y hy => by cases hy) hu
  simpa using this

theorem up_first {S A : List Nd} {ch : Nat} (hl : A.length = S.length) (hr : ∀ y, y < S.length → y ≠ ch → rightUnder (nd A y) = rightUnder (nd S y)) : ∀ {j x y : Nat}, x < S.length → Up A j x y → Up S j x y ∨ ∃ i m, i + m = j ∧ Up S i x ch ∧ Up A m ch y
  | 0, _, _, _, h => Or.inl h
  | j + 1, x, y, hx, ⟨z, h1, h2, h3⟩ => by
    by_cases e : x = ch
    · subst e
      exact Or.inr ⟨0, j + 1, by omega, rfl, ⟨z, h1, h2, h3⟩⟩
    · rw [hr x hx e] at h2
      rw [hl] at h1
      rcases up_first hl hr h1 h3 with h | ⟨i, m, hi, h, h'⟩
      · exact Or.inl ⟨z, h1, h2, h⟩
      · exact Or.inr ⟨i + 1, m, by omega, ⟨z, h1, h2, h⟩, h'⟩

theorem up_same {S A : List Nd} (hl : A.length = S.length) (hr : ∀ y, y < S.length → ∀ z : Nat, rightUnder (nd A y) = z → rightUnder (nd S y) = z) : ∀ {j x y : Nat}, x < S.length → Up A j x y → Up S j x y
  | 0, _, _, _, h => h
  | _ + 1, x, _, hx, ⟨z, h1, h2, h3⟩ => ⟨z, by omega, hr x hx z h2, up_same hl hr (by omega) h3⟩

theorem WF.used_of_kid {S : List Nd} (h : WF S) {i : Nat} (hi : i < S.length) {x : Int} (hx : x ∈ (nd S i).ks) : (nd S i).u = true := by
  have hf := (node_parts (h.node i hi)).2.2
  cases hu : (nd S i).u with
  | true => rfl
  | false =>
    unfold formB at hf
    rw [hu] at hf
    have := (of_decide_eq_true hf).2.2.2.1
    rw [this] at hx
    cases hx

theorem WF.host_of_parent {S : List Nd} (h : WF S) {ch : Nat} (hch : ch < S.length) (hp : (nd S ch).p ≠ -1) : (nd S ch).h = -1 ∧ (nd S ch).u = true := by
  have hf := (node_parts (h.node ch hch)).2.2
  unfold formB at hf
  split at hf
  · rename_i hu
    split at hf
    · cases hf
    · split at hf
      · rename_i hh
        exact ⟨hh, hu⟩
      · exact absurd (of_decide_eq_true hf) hp
  · exact absurd (of_decide_eq_true hf).2.2.1 hp

theorem WF.parent_place {S : List Nd} (h : WF S) {ch : Nat} (hch : ch < S.length) (hp : (nd S ch).p ≠ -1) : ∃ pa : Nat, (nd S ch).p = pa ∧ pa < S.length ∧ pa ≠ ch ∧ (ch : Int) ∈ (nd S pa).ks ∧ (nd S pa).u = true := by
  have h1 := (names_ks (names_of (h.node ch hch))).2.2
  obtain ⟨pa, e⟩ : ∃ k : Nat, (nd S ch).p = (k : Int) := ⟨(nd S ch).p.toNat, by omega⟩
  obtain ⟨h2, h3⟩ := h.in_kids hch e
  refine ⟨pa, e, h2, fun e2 => ?_, h3, h.used_of_kid h2 h3⟩
  subst e2
  have hr : rightUnder (nd S pa) = pa := by
    unfold rightUnder
    rw [if_pos (h.host_of_parent hch hp).1]
    exact e
  exact h.no_ring hch (Nat.le_refl 1) (by omega) (WF.up_one hch hr)

theorem leave_u (S : List Nd) (pa ch j : Nat) : (nd (leaveS S pa ch) j).u = (nd S j).u ∧ (nd (leaveS S pa ch) j).n = (nd S j).n ∧ (nd (leaveS S pa ch) j).h = (nd S j).h ∧ (nd (leaveS S pa ch) j).t = (nd S j).t ∧ (nd (leaveS S pa ch) j).m = (nd S j).m ∧ (nd (leaveS S pa ch) j).c = (nd S j).c := by
  by_cases hj : j < S.length
  · rw [nd_leaveS S pa ch j hj]
    unfold leaveNd
    split
    · rename_i e; subst e; exact ⟨rfl, rfl, rfl, rfl, rfl, rfl⟩
    · split
      · rename_i e; subst e; exact ⟨rfl, rfl, rfl, rfl, rfl, rfl⟩
      · exact ⟨rfl, rfl, rfl, rfl, rfl, rfl⟩
  · rw [nd_out (S := leaveS S pa ch) (by rw [leaveS_length]; omega), nd_out (by omega)]
    exact ⟨rfl, rfl, rfl, rfl, rfl, rfl⟩

theorem leave_p (S : List Nd) {pa ch j : Nat} (hj : j < S.length) : (nd (leaveS S pa ch) j).p = if j = ch then -1 else (nd S j).p := by
  rw [nd_leaveS S pa ch j hj]
  unfold leaveNd
  split
  · rfl
  · split
    · rename_i e; subst e; rfl
    · rfl

theorem leave_ks (S : List Nd) {pa ch j : Nat} (hne : pa ≠ ch) (hj : j < S.length) : (nd (leaveS S pa ch) j).ks = if j = pa then flt (fun x => decide (x = (ch : Int))) (nd S pa).ks else (nd S j).ks := by
  rw [nd_leaveS S pa ch j hj]
  unfold leaveNd
  split
  · rename_i e
    subst e
    rw [if_neg (fun e => hne e.symm)]
  · split
    · rfl
    · rfl

theorem range_congr {x y : Nd} (h1 : x.n = y.n) (h2 : x.t = y.t) (h3 : x.m = y.m) (h : rangeB y = true) : rangeB x = true := by
  unfold rangeB at *
  rw [h1, h2, h3]
  exact h

theorem names_parts {N : Int} {x : Nd} (h : namesB N x = true) : okPl N x.p = true ∧ okPl N x.h = true ∧ ∀ k ∈ x.ks, okPl N k = true := by
  unfold namesB at h
  simp only [Bool.and_eq_true, Bool.not_eq_true', List.any_eq_false] at h
  refine ⟨h.1, h.2.1, fun k hk => ?_⟩
  have := h.2.2 k hk
  simpa using this

theorem names_mk {N : Int} {x : Nd} (h1 : okPl N x.p = true) (h2 : okPl N x.h = true) (h3 : ∀ k ∈ x.ks, okPl N k = true) : namesB N x = true := by
  unfold namesB
  simp only [Bool.and_eq_true, Bool.not_eq_true', List.any_eq_false]
  refine ⟨h1, h2, fun k hk => ?_⟩
  rw [h3 k hk]
  simp

/-- The form of a node in use hangs on neither Kids nor, without a Host, on the Parent. -/
theorem form_used {x y : Nd} (hu : y.u = true) (h1 : x.u = y.u) (h2 : x.n = y.n) (h3 : x.h = y.h) (h4 : x.c = y.c) (h5 : y.h ≠ -1 → x.p = y.p) (h : formB y = true) : formB x = true := by
  unfold formB at *
  rw [h1, hu, h2, h3, h4]
  rw [hu] at h
  simp only [if_true] at *
  split at h
  · cases h
  · rename_i hn
    rw [if_neg hn]
    split at h
    · rename_i hh
      rw [if_pos hh]
      exact h
    · rename_i hh
      rw [if_neg hh, h5 hh]
      exact h

theorem mem_flt {p : Int → Bool} {ks : List Int} {x : Int} : x ∈ flt p ks ↔ x ∈ ks ∧ p x = false := by
  unfold flt
  rw [List.mem_filter]
  cases p x <;> simp

theorem WF.leave {S : List Nd} (h : WF S) {pa ch : Nat} (hch : ch < S.length) (hp : (nd S ch).p = pa) : WF (leaveS S pa ch) := by
  obtain ⟨pa', e, hpa, hne, hin, hpu⟩ := h.parent_place hch (by omega)
  have : pa' = pa := by omega
  subst this
  obtain ⟨hch1, hcu⟩ := h.host_of_parent hch (by omega)
  have hl := leaveS_length S pa' ch
  have hsub : ∀ i, i < S.length → ∀ x ∈ (nd (leaveS S pa' ch) i).ks, x ∈ (nd S i).ks ∧ x ≠ (ch : Int) := fun i hi x hx => by
    rw [leave_ks S hne hi] at hx
    split at hx
    · rename_i e1
      subst e1
      obtain ⟨h1, h2⟩ := mem_flt.1 hx
      exact ⟨h1, of_decide_eq_false h2⟩
    · rename_i e1
      refine ⟨hx, fun e2 => ?_⟩
      obtain ⟨k, e3, _, _, hk, _⟩ := h.kid hi hx
      have : k = ch := by omega
      subst this
      omega
  refine ⟨by rw [hl]; exact h.small, fun i hi => ?_, kidsOk_of (fun i hi => ?_) (fun i hi x hx => ?_) (fun j hj hjp => ?_), fun i hi => ?_, fun i hi => ?_⟩
  · rw [hl] at hi ⊢
    obtain ⟨r1, r2, r3⟩ := node_parts (h.node i hi)
    obtain ⟨n1, n2, n3⟩ := names_parts r2
    obtain ⟨u1, u2, u3, u4, u5, u6⟩ := leave_u S pa' ch i
    refine node_of (range_congr u2 u4 u5 r1) (names_mk ?_ (by rw [u3]; exact n2) (fun k hk => n3 k (hsub i hi k hk).1)) ?_
    · rw [leave_p S hi]
      split
      · exact decide_eq_true ⟨by omega, by omega⟩
      · exact n1
    · by_cases e1 : i = ch
      · subst e1
        exact form_used hcu u1 u2 u3 u6 (fun hh => absurd hch1 hh) r3
      · by_cases e2 : i = pa'
        · subst e2
          exact form_used hpu u1 u2 u3 u6 (fun _ => by rw [leave_p S hi, if_neg e1]) r3
        · rw [nd_leaveS S pa' ch i hi]
          unfold leaveNd
          rw [if_neg e1, if_neg e2]
          exact r3
  · rw [hl] at hi
    rw [leave_ks S hne hi]
    split
    · exact (h.kids_nodup hpa).filter _
    · exact h.kids_nodup hi
  · rw [hl] at hi ⊢
    obtain ⟨h1, h2⟩ := hsub i hi x hx
    obtain ⟨k, rfl, k1, k2, k3, _⟩ := h.kid hi h1
    refine ⟨k, rfl, k1, by rw [(leave_u S pa' ch k).1]; exact k2, ?_⟩
    rw [leave_p S k1, if_neg (by omega)]
    exact k3
  · rw [hl] at hj ⊢
    rw [leave_p S hj] at hjp
    split at hjp
    · exact absurd rfl hjp
    · rename_i e1
      obtain ⟨i, i1, i2, _, i3, _⟩ := h.parent_place hj hjp
      refine ⟨i, i2, ?_⟩
      rw [leave_ks S hne i2]
      split
      · rename_i e2
        subst e2
        exact mem_flt.2 ⟨i3, decide_eq_false (by omega)⟩
      · exact i3
  · rw [hl] at hi
    intro hh
    rw [(leave_u S pa' ch i).2.2.1] at hh ⊢
    obtain ⟨g1, g2⟩ := h.hosts i hi hh
    refine ⟨by rw [(leave_u S pa' ch _).1]; exact g1, fun i' hi' => by rw [(leave_u S pa' ch i').2.2.1]; exact g2 i' hi'⟩
  · rw [hl] at hi
    cases hb : underB (leaveS S pa' ch) i i with
    | false => rfl
    | true =>
      obtain ⟨j, j1, j2, j3⟩ := under_up (by rw [hl]; exact hi) hb
      rw [hl] at j2
      refine absurd (up_same hl (fun y hy z hz => ?_) hi j3) (h.no_ring hi j1 j2)
      unfold rightUnder at *
      rw [(leave_u S pa' ch y).2.2.1, leave_p S hy] at hz
      by_cases e1 : y = ch
      · subst e1
        rw [if_pos hch1, if_pos rfl] at hz
        omega
      · rw [if_neg e1] at hz
        exact hz

theorem enter_u (S : List Nd) (pa ch at' j : Nat) : (nd (enterS S pa ch at') j).u = (nd S j).u ∧ (nd (enterS S pa ch at') j).n = (nd S j).n ∧ (nd (enterS S pa ch at') j).h = (nd S j).h ∧ (nd (enterS S pa ch at') j).t = (nd S j).t ∧ (nd (enterS S pa ch at') j).m = (nd S j).m ∧ (nd (enterS S pa ch at') j).c = (nd S j).c := by
  by_cases hj : j < S.length
  · rw [nd_enterS S pa ch at' j hj]
    unfold enterNd
    split
    · rename_i e; subst e; exact ⟨rfl, rfl, rfl, rfl, rfl, rfl⟩
    · split
      · rename_i e; subst e; exact ⟨rfl, rfl, rfl, rfl, rfl, rfl⟩
      · exact ⟨rfl, rfl, rfl, rfl, rfl, rfl⟩
  · rw [nd_out (S := enterS S pa ch at') (by rw [enterS_length]; omega), nd_out (by omega)]
    exact ⟨rfl, rfl, rfl, rfl, rfl, rfl⟩

theorem enter_p (S : List Nd) {pa ch at' j : Nat} (hj : j < S.length) : (nd (enterS S pa ch at') j).p = if j = ch then (pa : Int) else (nd S j).p := by
  rw [nd_enterS S pa ch at' j hj]
  unfold enterNd
  split
  · rfl
  · split
    · rename_i e; subst e; rfl
    · rfl

theorem enter_ks (S : List Nd) {pa ch at' j : Nat} (hne : pa ≠ ch) (hj : j < S.length) : (nd (enterS S pa ch at') j).ks = if j = pa then ins (nd S pa).ks at' ch else (nd S j).ks := by
  rw [nd_enterS S pa ch at' j hj]
  unfold enterNd
  split
  · rename_i e
    subst e
    rw [if_neg (fun e => hne e.symm)]
  · split
    · rfl
    · rfl

theorem mem_ins {ks : List Int} {i : Nat} {c x : Int} : x ∈ ins ks i c ↔ x = c ∨ x ∈ ks := by
  unfold ins
  have h2 : x ∈ ks ↔ x ∈ ks.take i ∨ x ∈ ks.drop i := by
    rw [← List.mem_append, List.take_append_drop]
  rw [List.mem_append, List.mem_cons, h2]
  constructor
  · rintro (h | h | h)
    · exact Or.inr (Or.inl h)
    · exact Or.inl h
    · exact Or.inr (Or.inr h)
  · rintro (h | h | h)
    · exact Or.inr (Or.inl h)
    · exact Or.inl h
    · exact Or.inr (Or.inr h)

theorem nodup_ins {ks : List Int} {i : Nat} {c : Int} (h : ks.Nodup) (hc : c ∉ ks) : (ins ks i c).Nodup := by
  unfold ins
  have h2 : (ks.take i ++ ks.drop i).Nodup := by rw [List.take_append_drop]; exact h
  rw [List.nodup_append] at h2 ⊢
  obtain ⟨h3, h4, h5⟩ := h2
  refine ⟨h3, List.nodup_cons.2 ⟨fun hm => hc (List.mem_of_mem_drop hm), h4⟩, fun a ha b hb e => ?_⟩
  rcases List.mem_cons.1 hb with rfl | hb
  · rw [e] at ha
    exact hc (List.mem_of_mem_take ha)
  · exact h5 a ha b hb e

theorem WF.not_kid {S : List Nd} (h : WF S) {ch : Nat} (hp : (nd S ch).p = -1) {i : Nat} (hi : i < S.length) : (ch : Int) ∉ (nd S i).ks := fun hm => by
  obtain ⟨k, e, _, _, hk, _⟩ := h.kid hi hm
  have : k = ch := by omega
  subst this
  omega

theorem WF.enter {S : List Nd} (h : WF S) {pa ch at' : Nat} (hpa : pa < S.length) (hch : ch < S.length) (hpu : (nd S pa).u = true) (hcu : (nd S ch).u = true) (hcp : (nd S ch).p = -1) (hcH : (nd S ch).h = -1) (hne : pa ≠ ch) (hun : underB S pa ch = false) : WF (enterS S pa ch at') := by
  have hl := enterS_length S pa ch at'
  have hnk : ∀ i, i < S.length → (ch : Int) ∉ (nd S i).ks := fun i hi => h.not_kid hcp hi
  refine ⟨by rw [hl]; exact h.small, fun i hi => ?_, kidsOk_of (fun i hi => ?_) (fun i hi x hx => ?_) (fun j hj hjp => ?_), fun i hi => ?_, fun i hi => ?_⟩
  · rw [hl] at hi ⊢
    obtain ⟨r1, r2, r3⟩ := node_parts (h.node i hi)
    obtain ⟨n1, n2, n3⟩ := names_parts r2
    obtain ⟨u1, u2, u3, u4, u5, u6⟩ := enter_u S pa ch at' i
    refine node_of (range_congr u2 u4 u5 r1) (names_mk ?_ (by rw [u3]; exact n2) (fun k hk => ?_)) ?_
    · rw [enter_p S hi]
      split
      · exact decide_eq_true ⟨by omega, by omega⟩
      · exact n1
    · rw [enter_ks S hne hi] at hk
      split at hk
      · rename_i e1
        subst e1
        rcases mem_ins.1 hk with rfl | hk
        · exact decide_eq_true ⟨by omega, by omega⟩
        · exact n3 k hk
      · exact n3 k hk
    · by_cases e1 : i = ch
      · subst e1
        exact form_used hcu u1 u2 u3 u6 (fun hh => absurd hcH hh) r3
      · by_cases e2 : i = pa
        · subst e2
          exact form_used hpu u1 u2 u3 u6 (fun _ => by rw [enter_p S hi, if_neg e1]) r3
        · rw [nd_enterS S pa ch at' i hi]
          unfold enterNd
          rw [if_neg e1, if_neg e2]
          exact r3
  · rw [hl] at hi
    rw [enter_ks S hne hi]
    split
    · exact nodup_ins (h.kids_nodup hpa) (hnk pa hpa)
    · exact h.kids_nodup hi
  · rw [hl] at hi ⊢
    have hold : x ∈ (nd S i).ks → ∃ j : Nat, x = j ∧ j < S.length ∧ (nd (enterS S pa ch at') j).u = true ∧ (nd (enterS S pa ch at') j).p = i := fun hm => by
      obtain ⟨k, rfl, k1, k2, k3, _⟩ := h.kid hi hm
      refine ⟨k, rfl, k1, by rw [(enter_u S pa ch at' k).1]; exact k2, ?_⟩
      rw [enter_p S k1, if_neg (fun e => hnk i hi (by rw [← e]; exact hm))]
      exact k3
    rw [enter_ks S hne hi] at hx
    split at hx
    · rename_i e1
      subst e1
      rcases mem_ins.1 hx with rfl | hx
      · exact ⟨ch, rfl, hch, by rw [(enter_u S i ch at' ch).1]; exact hcu, by rw [enter_p S hch, if_pos rfl]⟩
      · exact hold hx
    · exact hold hx
  · rw [hl] at hj ⊢
    rw [enter_p S hj] at hjp
    split at hjp
    · rename_i e1
      subst e1
      exact ⟨pa, hpa, by rw [enter_ks S hne hpa, if_pos rfl]; exact mem_ins.2 (Or.inl rfl)⟩
    · obtain ⟨i, i1, i2, _, i3, _⟩ := h.parent_place hj hjp
      refine ⟨i, i2, ?_⟩
      rw [enter_ks S hne i2]
      split
      · rename_i e2
        subst e2
        exact mem_ins.2 (Or.inr i3)
      · exact i3
  · rw [hl] at hi
    intro hh
    rw [(enter_u S pa ch at' i).2.2.1] at hh ⊢
    obtain ⟨g1, g2⟩ := h.hosts i hi hh
    refine ⟨by rw [(enter_u S pa ch at' _).1]; exact g1, fun i' hi' => by rw [(enter_u S pa ch at' i').2.2.1]; exact g2 i' hi'⟩
  · rw [hl] at hi
    have hr : ∀ y, y < S.length → y ≠ ch → rightUnder (nd (enterS S pa ch at') y) = rightUnder (nd S y) := fun y hy e => by
      unfold rightUnder
      rw [(enter_u S pa ch at' y).2.2.1, enter_p S hy, if_neg e]
    have hrc : rightUnder (nd (enterS S pa ch at') ch) = pa := by
      unfold rightUnder
      rw [(enter_u S pa ch at' ch).2.2.1, if_pos hcH, enter_p S hch, if_pos rfl]
    have hno : ∀ q, ¬ Up S q pa ch := fun q hq => by
      cases q with
      | zero => exact hne hq
      | succ q =>
        have := up_under hpa (by omega) (by have := h.up_short hpa hq; omega) hq
        rw [hun] at this
        cases this
    cases hb : underB (enterS S pa ch at') i i with
    | false => rfl
    | true =>
      obtain ⟨j, j1, j2, j3⟩ := under_up (by rw [hl]; exact hi) hb
      rw [hl] at j2
      rcases up_first hl hr hi j3 with g | ⟨k, m, e, g1, g2⟩
      · exact absurd g (h.no_ring hi j1 j2)
      · cases m with
        | zero =>
          have e2 : ch = i := g2
          have e3 : k = j := by omega
          rw [e2, e3] at g1
          exact absurd g1 (h.no_ring hi j1 j2)
        | succ m =>
          obtain ⟨z, z1, z2, z3⟩ := g2
          have : z = pa := by omega
          subst this
          rcases up_first hl hr hpa z3 with g | ⟨k', m', _, g3, _⟩
          · exact absurd (g.trans g1) (hno _)
          · exact absurd g3 (hno _)
end Go.Proofs.YtgjfmepbphfjoaaGreat
