/-
  Right stores, without the program: a node is made, a node is freed, and the store stays right.
-/
import Derived.Test.YtgjfmepbphfjoaaGreatUXaWf
import Derived.Test.YtgjfmepbphfjoaaGreatUUbWbWdSr
namespace Go.Proofs.YtgjfmepbphfjoaaGreat
open Go.RowKit

def freedNd (x : Nd) : Nd := ⟨false, x.n, 0, 0, -1, [], -1, false⟩

/-- Does nothing hang on the node? -/
def looseB (S : List Nd) (k : Nat) : Prop := rightUnder (nd S k) = -1 ∧ (nd S k).ks = [] ∧ hostB S k = false

/-- A store with the same Parents, Kids and Hosts, in which those are in use that something names. -/
theorem WF.like {S A : List Nd} (h : WF S) (hl : A.length = S.length) (hn : ∀ i, i < S.length → nodeE S.length (nd A i) = 0)
    (hs : ∀ i, i < S.length → (nd A i).p = (nd S i).p ∧ (nd A i).ks = (nd S i).ks ∧ (nd A i).h = (nd S i).h)
    (hu : ∀ i, i < S.length → (nd S i).u = true → (nd A i).u = true ∨ ∀ j, j < S.length → (i : Int) ∉ (nd S j).ks ∧ (nd S j).h ≠ i) : WF A := by
  refine ⟨by rw [hl]; exact h.small, fun i hi => by rw [hl] at hi ⊢; exact hn i hi, kidsOk_of (fun i hi => ?_) (fun i hi x hx => ?_) (fun j hj hjp => ?_), fun i hi => ?_, fun i hi => ?_⟩
  · rw [hl] at hi
    rw [(hs i hi).2.1]
    exact h.kids_nodup hi
  · rw [hl] at hi ⊢
    rw [(hs i hi).2.1] at hx
    obtain ⟨k, rfl, k1, k2, k3, _⟩ := h.kid hi hx
    refine ⟨k, rfl, k1, ?_, by rw [(hs k k1).1]; exact k3⟩
    rcases hu k k1 k2 with g | g
    · exact g
    · exact absurd hx (g i hi).1
  · rw [hl] at hj ⊢
    rw [(hs j hj).1] at hjp
    obtain ⟨i, i1, i2, _, i3, _⟩ := h.parent_place hj hjp
    exact ⟨i, i2, by rw [(hs i i2).2.1]; exact i3⟩
  · rw [hl] at hi
    intro hh
    rw [(hs i hi).2.2] at hh ⊢
    obtain ⟨g1, g2⟩ := h.hosts i hi hh
    have hb := (names_ks (names_of (h.node i hi))).2.1
    obtain ⟨q, hq⟩ : ∃ q : Nat, (nd S i).h = (q : Int) := ⟨(nd S i).h.toNat, by omega⟩
    refine ⟨?_, fun i' hi' => by rw [(hs i' (by omega)).2.2]; exact g2 i' hi'⟩
    rw [hq, Int.toNat_natCast] at g1 ⊢
    rcases hu q (by omega) g1 with g | g
    · exact g
    · exact absurd hq (g i hi).2
  · rw [hl] at hi
    cases hb : underB A i i with
    | false => rfl
    | true =>
      obtain ⟨j, j1, j2, j3⟩ := under_up (by rw [hl]; exact hi) hb
      rw [hl] at j2
      exact absurd (up_same hl (fun y hy z e => by unfold rightUnder at e ⊢; rw [(hs y hy).1, (hs y hy).2.2] at e; exact e) hi j3) (h.no_ring hi j1 j2)

theorem WF.unused {S : List Nd} (h : WF S) {k : Nat} (hk : k < S.length) (hu : (nd S k).u = false) : (nd S k).t = 0 ∧ (nd S k).m = 0 ∧ (nd S k).p = -1 ∧ (nd S k).ks = [] ∧ (nd S k).h = -1 ∧ (nd S k).c = false := by
  have hf := (node_parts (h.node k hk)).2.2
  unfold formB at hf
  rw [hu] at hf
  exact of_decide_eq_true hf

theorem WF.uses {S : List Nd} (h : WF S) {k : Nat} (hk : k < S.length) : 0 ≤ (nd S k).n ∧ (nd S k).n ≤ 1000000 ∧ ((nd S k).u = true → 1 ≤ (nd S k).n) := by
  obtain ⟨h1, _, h3⟩ := node_parts (h.node k hk)
  unfold rangeB at h1
  simp only [Bool.and_eq_true, decide_eq_true_eq] at h1
  refine ⟨h1.1.1, h1.1.2, fun hu => ?_⟩
  unfold formB at h3
  rw [if_pos hu] at h3
  by_cases e : (nd S k).n = 0
  · rw [if_pos e] at h3
    cases h3
  · have := h1.1.1
    omega

theorem free_parts {x : Nd} (h : freeB x = true) : x.u = false ∧ x.n < 1000000 := by
  unfold freeB at h
  simpa using h

theorem WF.make {S : List Nd} (h : WF S) {k : Nat} {t : Int} (hk : k < S.length) (hf : freeB (nd S k) = true) (ht0 : 0 ≤ t) (ht1 : t ≤ 99) : WF (S.set k (madeNd (nd S k) t)) := by
  obtain ⟨hu, hn⟩ := free_parts hf
  obtain ⟨q1, q2, q3, q4, q5, q6⟩ := h.unused hk hu
  obtain ⟨n0, n1, _⟩ := h.uses hk
  refine h.like (by simp) (fun i hi => ?_) (fun i hi => ?_) (fun i hi hiu => ?_)
  · rw [nd_set S k i _ hk]
    split
    · rename_i e
      subst e
      obtain ⟨r1, r2, r3⟩ := node_parts (h.node i hi)
      obtain ⟨m1, m2, m3⟩ := names_parts r2
      refine node_of ?_ (names_mk m1 m2 m3) ?_
      · unfold rangeB madeNd
        simp only [Bool.and_eq_true, decide_eq_true_eq]
        exact ⟨⟨by omega, by omega⟩, ⟨ht0, ht1⟩, by rw [q2]; omega, by rw [q2]; omega⟩
      · unfold formB madeNd
        simp only [if_true]
        rw [if_neg (by omega), if_pos q5, q6]
        rfl
    · exact h.node i hi
  · rw [nd_set S k i _ hk]
    split
    · rename_i e
      subst e
      exact ⟨rfl, rfl, rfl⟩
    · exact ⟨rfl, rfl, rfl⟩
  · rw [nd_set S k i _ hk]
    split
    · exact Or.inl rfl
    · exact Or.inl hiu

theorem loose_parts {S : List Nd} {k : Nat} (h : looseB S k) : (nd S k).p = -1 ∧ (nd S k).h = -1 ∧ (nd S k).ks = [] ∧ ∀ j, j < S.length → (nd S j).h ≠ k := by
  obtain ⟨h1, h2, h3⟩ := h
  unfold rightUnder at h1
  by_cases e : (nd S k).h = -1
  · rw [if_pos e] at h1
    exact ⟨h1, e, h2, hostB_false.1 h3⟩
  · rw [if_neg e] at h1
    exact absurd h1 e

theorem WF.free {S : List Nd} (h : WF S) {k : Nat} (hk : k < S.length) (hL : looseB S k) : WF (S.set k (freedNd (nd S k))) := by
  obtain ⟨hp, hh, hks, hH⟩ := loose_parts hL
  obtain ⟨n0, n1, _⟩ := h.uses hk
  refine h.like (by simp) (fun i hi => ?_) (fun i hi => ?_) (fun i hi hiu => ?_)
  · rw [nd_set S k i _ hk]
    split
    · rename_i e
      subst e
      refine node_of ?_ (names_mk ?_ ?_ (fun y hy => absurd hy (by simp [freedNd]))) ?_
      · unfold rangeB freedNd
        simp only [Bool.and_eq_true, decide_eq_true_eq]
        exact ⟨⟨n0, n1⟩, by omega, by omega⟩
      · unfold freedNd okPl
        exact decide_eq_true ⟨by dsimp only; omega, by dsimp only; omega⟩
      · unfold freedNd okPl
        exact decide_eq_true ⟨by dsimp only; omega, by dsimp only; omega⟩
      · unfold formB freedNd
        simp
    · exact h.node i hi
  · rw [nd_set S k i _ hk]
    split
    · rename_i e
      subst e
      exact ⟨hp.symm, hks.symm, hh.symm⟩
    · exact ⟨rfl, rfl, rfl⟩
  · by_cases e : i = k
    · subst e
      exact Or.inr (fun j hj => ⟨h.not_kid hp hj, hH j hj⟩)
    · rw [nd_set S k i _ hk, if_neg e]
      exact Or.inl hiu

theorem wf_new (n : Nat) (hn : n ≤ 24) : WF (List.replicate n unusedNd) := by
  have hnd : ∀ i, i < n → nd (List.replicate n unusedNd) i = unusedNd := fun i hi => nd_replicate n i _ hi
  have hl : (List.replicate n unusedNd).length = n := by simp
  refine ⟨by rw [hl]; exact hn, fun i hi => ?_, kidsOk_of (fun i hi => ?_) (fun i hi x hx => ?_) (fun j hj hjp => ?_), fun i hi => ?_, fun i hi => ?_⟩
  · rw [hl] at hi ⊢
    rw [hnd i hi]
    refine node_of (by decide) (names_mk ?_ ?_ (fun y hy => absurd hy (by simp [unusedNd]))) (by decide)
    · unfold unusedNd okPl
      exact decide_eq_true ⟨by dsimp only; omega, by dsimp only; omega⟩
    · unfold unusedNd okPl
      exact decide_eq_true ⟨by dsimp only; omega, by dsimp only; omega⟩
  · rw [hl] at hi
    rw [hnd i hi]
    exact List.nodup_nil
  · rw [hl] at hi
    rw [hnd i hi] at hx
    cases hx
  · rw [hl] at hj
    rw [hnd j hj] at hjp
    exact absurd rfl hjp
  · rw [hl] at hi
    intro hh
    rw [hnd i hi] at hh
    exact absurd rfl hh
  · cases hb : underB (List.replicate n unusedNd) i i with
    | false => rfl
    | true =>
      obtain ⟨j, j1, j2, j3⟩ := under_up hi hb
      obtain ⟨j', rfl⟩ : ∃ j', j = j' + 1 := ⟨j - 1, by omega⟩
      obtain ⟨z, _, hz, _⟩ := j3
      rw [hl] at hi
      rw [hnd i hi] at hz
      have : (-1 : Int) = (z : Int) := hz
      omega
end Go.Proofs.YtgjfmepbphfjoaaGreat

namespace Go.Proofs.YtgjfmepbphfjoaaGreat
open Go.RowKit

set_option maxHeartbeats 400000 in
theorem indexFunc_in (K : Nat) (caps : Array Value) (p : Int → Bool) (a : Option Addr) (c : Nat) (ks : List Int) (w : World) (hbig : ks.length ≤ 9223372036854775807) (hks : IntsAt w a ks)
    (eg : ∀ args w, (callFunc K args).run Tryz.prog w = .ok (.enter K args) w) (hf : ∀ x ∈ ks, ∀ w1, Below w.heap.size w w1 → Calls Tryz.prog K (#[.int .i64 x] ++ caps) w1 fun e w2 => e = .returned (.bool (p x)) ∧ Below w1.heap.size w1 w2) :
    Calls Tryz.prog 121 #[.slice a ks.length c, .func (.func K) #[] caps] w fun e w' => ∃ r : Int, e = .returned (.int .i64 r) ∧ Below w.heap.size w w' ∧
      ((r = -1 ∧ ∀ i, i < ks.length → p (ks.getD i 0) = false) ∨ (∃ k : Nat, k < ks.length ∧ r = k ∧ p (ks.getD k 0) = true ∧ ∀ i, i < k → p (ks.getD i 0) = false)) := by
  generalize hn : ks.length = n at *
  go_enter Tryz.func121, Tryz.ntmps121
  go_wp2
  go_loopg [8] n (fun g s8 wr => ∃ k : Nat, k ≤ n ∧ n - k ≤ g ∧ s8 = .int .i64 k ∧ Below w.heap.size w wr ∧ Hid (∀ i, i < k → p (ks.getD i 0) = false))
  case atStart => exact ⟨0, by omega, by omega, rfl, Below.refl _ _, fun i hi => by omega⟩
  case round =>
    obtain ⟨k, hk, hg, rfl, hb, A⟩ := hrel
    by_cases hlt : k < n
    · obtain ⟨b, o, rfl, hc⟩ := (hks.below hb) k (by omega)
      have hcall := hf (ks.getD k 0) (by rw [getD_elem ks 0 (by omega)]; exact List.getElem_mem _) wr hb
      have KS : Hid (IntsAt w (some ⟨b, o, none⟩) ks) := hks
      clear hks hf
      generalize hy : ks.getD k 0 = y at hc hcall
      have Y : Hid (ks.getD k 0 = y) := hy
      clear hy
      cases hq : p y with
      | true =>
        rw [hq] at hcall
        go_wp2_with (go_at_fn K; refine hcall.mono ?_; rintro e w' ⟨rfl, hb2⟩)
        go_ret
        exact ⟨k, rfl, hb.trans (hb2.mono hb.size), Or.inr ⟨k, hlt, rfl, by rw [Y.out]; exact hq, A.out⟩⟩
      | false =>
        rw [hq] at hcall
        go_wp2_with (go_at_fn K; refine hcall.mono ?_; rintro e w' ⟨rfl, hb2⟩)
        go_roundg (n - (k + 1))
        case measure => omega
        case rel =>
          refine ⟨k + 1, by omega, by omega, by go_num, hb.trans (hb2.mono hb.size), (show Hid _ from fun i hi => ?_)⟩
          by_cases e : i = k
          · subst e
            rw [Y.out]; exact hq
          · exact A.out i (by omega)
    · have : k = n := by omega
      subst this
      clear hks hf
      go_wp2
      go_ret
      exact ⟨-1, rfl, hb, Or.inl ⟨rfl, A.out⟩⟩


set_option maxHeartbeats 2000000 in
theorem deleteFunc_in (K : Nat) (caps : Array Value) (p : Int → Bool) (kb L cap : Nat) (ks : List Int) (G : Nat → Value) (w : World) (hL : ks.length = L) (hc : L ≤ cap) (hsm : cap ≤ 9223372036854775807) (hG : w.rowIs kb 3 cap G) (hGk : ∀ j, j < L → G j = .int .i64 (ks.getD j 0))
    (eg : ∀ args w, (callFunc K args).run Tryz.prog w = .ok (.enter K args) w) (hT : ∀ x ∈ ks, ∀ w1, Off (fun b => b = kb) w w1 → Calls Tryz.prog K (#[.int .i64 x] ++ caps) w1 fun e w2 => e = .returned (.bool (p x)) ∧ Below w1.heap.size w1 w2) :
    Calls Tryz.prog 125 #[.slice (some ⟨kb, 0, none⟩) L cap, .func (.func K) #[] caps] w (Deleted w kb cap (flt p ks)) := by
  have di := indexFunc_in K caps p (some ⟨kb, 0, none⟩) cap ks w (by omega) (ints_of_row hG (by omega) (by rw [hL]; exact hGk)) eg (fun x hx w1 hb => hT x hx w1 (Off.of_below hb))
  rw [hL] at di
  have HG : Hid (w.rowIs kb 3 cap G) := hG
  have HGk : Hid _ := hGk
  have HT : Hid _ := hT
  have HL : Hid _ := hL
  have hkb := hG.lt
  clear hG hGk hT hL
  go_enter Tryz.func125, Tryz.ntmps125
  go_wp2_with fail
  refine di.mono ?_
  rintro e w1 ⟨r, rfl, hb1, hr⟩
  clear di
  rcases hr with ⟨rfl, hall⟩ | ⟨k, hk, rfl, hp, hf⟩
  · have hfl := flt_all p ks (by rw [HL.out]; exact hall)
    have E : Hid _ := hfl
    clear hall hfl
    go_wp2
    go_ret
    refine ⟨by rw [E.out, HL.out]; rfl, Off.of_below hb1, G, HG.out.of_block (hb1.block kb hkb), fun j hj => ?_⟩
    rw [E.out] at hj ⊢
    exact HGk.out j (by rw [← HL.out]; exact hj)
  · have hk1 : ((k : Int) == -1) = false := beq_eq_false_iff_ne.2 (by omega)
    have F0 : Hid (flt p (ks.take (k + 1)) = ks.take k) := by
      show _ = _
      rw [flt_succ p ks k (by rw [HL.out]; exact hk), hp, if_pos rfl, List.append_nil]
      refine flt_all p _ (fun i hi => ?_)
      rw [List.length_take] at hi
      have hks := HL.out
      have h1 := hf i (by omega)
      rw [getD_elem ks 0 (by omega)] at h1
      rw [getD_elem (ks.take k) 0 (by rw [List.length_take]; omega), List.getElem_take]
      exact h1
    have HR0 : Hid (w1.rowIs kb 3 cap G) := HG.out.of_block (hb1.block kb hkb)
    have FI : Hid (∀ t, t < k → G t = .int .i64 ((flt p (ks.take (k + 1))).getD t 0)) := fun t ht => by
      have hks := HL.out
      rw [F0.out, HGk.out t (by omega), getD_elem ks 0 (by omega), getD_elem (ks.take k) 0 (by rw [List.length_take]; omega), List.getElem_take]
    have FL : Hid ((flt p (ks.take (k + 1))).length = k) := by
      have hks := HL.out
      show _ = _
      rw [F0.out, List.length_take]; omega
    have O1 : Hid (Off (fun b => b = kb) w w1) := Off.of_below hb1
    clear hp hf hb1
    go_wp2
    go_loopg [5, 6] L (fun g1 s5 s6 wr => ∃ (i j : Nat) (G2 : Nat → Value), i < j ∧ j ≤ L ∧ L - j ≤ g1 ∧ s5 = .int .i64 i ∧ s6 = .int .i64 j ∧ Hid (Off (fun b => b = kb) w wr) ∧ Hid (wr.rowIs kb 3 cap G2) ∧ Hid ((flt p (ks.take j)).length = i) ∧ Hid (∀ t, t < i → G2 t = .int .i64 ((flt p (ks.take j)).getD t 0)) ∧ Hid (∀ t, j ≤ t → t < L → G2 t = .int .i64 (ks.getD t 0)))
    case atStart => exact ⟨k, k + 1, G, by omega, by omega, by omega, rfl, by go_num, O1, HR0, FL, FI, (show Hid _ from fun t _ ht => HGk.out t ht)⟩
    case round =>
      clear HR0 FI FL O1
      obtain ⟨i, j, G2, hij, hjL, hg1, rfl, rfl, O2, R2, L2, I2, J2⟩ := hrel
      have hkw : kb < wr.heap.size := R2.out.lt
      have hfz := R2.out.frozen
      by_cases hlt : j < L
      · have hlt2 : (j : Int) < (L : Int) := by omega
        have cj := R2.out.cell (i := j) (by omega)
        rw [J2.out j (Nat.le_refl _) hlt] at cj
        have ci := R2.out.cell (i := i) (by omega)
        have hcall := HT.out (ks.getD j 0) (by rw [getD_elem ks 0 (by rw [HL.out]; exact hlt)]; exact List.getElem_mem _) wr O2.out
        have FS := flt_succ p ks j (by rw [HL.out]; exact hlt)
        generalize hy : ks.getD j 0 = y at *
        have HY : Hid _ := hy
        clear hy
        cases hq : p y with
        | true =>
          rw [hq] at hcall FS
          rw [if_pos rfl, List.append_nil] at FS
          have HFS : Hid _ := FS
          clear FS
          go_wp2_with (go_at_fn K; refine hcall.mono ?_; rintro e w2 ⟨rfl, hb2⟩)
          go_roundg (L - (j + 1))
          case measure => omega
          case rel => exact ⟨i, j + 1, G2, by omega, by omega, by omega, rfl, by go_num, O2.out.trans (Off.of_below hb2), R2.out.of_block (hb2.block kb hkw), (show _ = _ by rw [HFS.out]; exact L2.out), (show Hid _ from fun t ht => by rw [HFS.out]; exact I2.out t ht), (show Hid _ from fun t h1 h2 => J2.out t (by omega) h2)⟩
        | false =>
          rw [hq] at hcall FS
          rw [if_neg (by simp)] at FS
          have HFS : Hid _ := FS
          clear FS
          go_wp2_with (go_at_fn K; refine hcall.mono ?_; rintro e w2 ⟨rfl, hb2⟩; have ci2 := (hb2.cell (by exact hkw)).trans ci; have hfz2 := fun o => (hb2.frozen (by exact hkw)).trans (hfz o))
          go_roundg (L - (j + 1))
          case measure => omega
          case rel =>
            refine ⟨i + 1, j + 1, _, by omega, by omega, by omega, by go_num, by go_num, (O2.out.trans (Off.of_below hb2)).trans (off_setCell (X := fun b => b = kb) _ rfl _), (R2.out.of_block (hb2.block kb hkw)).set i (.int .i64 y), (show _ = _ by rw [HFS.out, List.length_append, L2.out]; rfl), (show Hid _ from fun t ht => ?_), (show Hid _ from fun t h1 h2 => ?_)⟩
            · rw [HFS.out]
              by_cases e : t = i
              · subst e
                rw [if_pos rfl]
                simp [List.getD, L2.out]
              · rw [if_neg e, I2.out t (by omega)]
                simp [List.getD, List.getElem?_append, L2.out, show t < i by omega]
            · rw [if_neg (by omega)]
              exact J2.out t (by omega) h2
      · have hjL2 : j = L := by omega
        subst hjL2
        have hic : (i : Int) ≤ (cap : Int) := by omega
        have hiL : (i : Int) ≤ (j : Int) := by omega
        have EF : Hid (flt p (ks.take j) = flt p ks) := by
          show _ = _
          rw [← HL.out, List.take_length]
        have hcl : ∀ ty, (Builtin.clear_ #[29] ty #[.slice (some ⟨kb, i, none⟩) (j - i) (cap - i)]).run Tryz.prog wr = .ok (.tuple #[]) (wr.setCells kb i (List.replicate (j - i) (.int .i64 0))) := fun ty => Lib.run_clear_slice wr 29 3 ty (.int .i64 0) Tryz.underlying29 Tryz.zeroValue3 rfl rfl kb i (j - i) (cap - i) (by omega) (fun t ht => by rw [R2.out.cell (by omega)]; rfl) (fun t ht => hfz _)
        go_wp2
        go_ret
        refine ⟨?_, O2.out.trans (off_setCells (X := fun b => b = kb) rfl _ _ _), _, row_setCells _ _ _ _ R2.out, fun t ht => ?_⟩
        · rw [← EF.out, L2.out]; rfl
        · rw [← EF.out, L2.out] at ht
          rw [if_neg (by omega), I2.out t ht, EF.out]

theorem deleteFunc_nil (K : Nat) (caps : Array Value) (w : World) (eg : ∀ args w, (callFunc K args).run Tryz.prog w = .ok (.enter K args) w) :
    Calls Tryz.prog 125 #[.slice none 0 0, .func (.func K) #[] caps] w fun e w' => e = .returned (.slice none 0 0) ∧ Below w.heap.size w w' := by
  have di := indexFunc_in K caps (fun _ => true) none 0 [] w (by simp) (fun i hi => absurd hi (Nat.not_lt_zero _)) eg (fun x hx => by cases hx)
  go_enter Tryz.func125, Tryz.ntmps125
  go_wp2_with fail
  refine di.mono ?_
  rintro e w1 ⟨r, rfl, hb1, hr⟩
  have hr1 : r = -1 := by
    rcases hr with ⟨h, _⟩ | ⟨k, hk, _⟩
    · exact h
    · exact absurd hk (Nat.not_lt_zero _)
  subst hr1
  clear hr di
  go_wp2
  go_ret
  exact ⟨rfl, hb1⟩
end Go.Proofs.YtgjfmepbphfjoaaGreat
