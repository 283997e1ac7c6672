/-
  slices.DeleteFunc at []int, in a row of the call's own, over any closure that tells yes or no.
-/
import Derived.Test.YtplkfacaphejgaaUTjSn
import Derived.Shelf.SlicesE.DeleteFunc
namespace Go.Proofs.Ytplkfacaphejgaa
open Go.RowKit

/-- What is asked of a function value that tells yes or no of a number: in every world in which all that lay in w, but in the blocks of X, lies unturned, it answers p, and turns nothing. -/
def TellsOff (X : Nat → Prop) (K : Nat) (caps : Array Value) (p : Int → Bool) (w : World) : Prop :=
  ∀ (x : Int) (w1 : World), Off X w w1 → Calls Try.prog K (#[.int .i64 x] ++ caps) w1 fun e w2 => e = .returned (.bool (p x)) ∧ Below w1.heap.size w1 w2

def flt (p : Int → Bool) (ks : List Int) : List Int := ks.filter fun x => !p x

theorem flt_succ (p : Int → Bool) (ks : List Int) (j : Nat) (h : j < ks.length) : flt p (ks.take (j + 1)) = flt p (ks.take j) ++ (if p (ks.getD j 0) then [] else [ks.getD j 0]) := by
  unfold flt
  rw [List.take_succ_eq_append_getElem h, List.filter_append, getD_elem ks 0 h]
  cases hp : p ks[j] <;> simp [hp]
theorem flt_all (p : Int → Bool) (ks : List Int) (h : ∀ i, i < ks.length → p (ks.getD i 0) = false) : flt p ks = ks := by
  unfold flt
  rw [List.filter_eq_self]
  intro x hx
  obtain ⟨i, hi, rfl⟩ := List.getElem_of_mem hx
  have := h i hi
  rw [getD_elem ks 0 hi] at this
  simp [this]
theorem flt_le (p : Int → Bool) (ks : List Int) : (flt p ks).length ≤ ks.length := List.length_filter_le _ _

def Deleted (w : World) (kb cap : Nat) (l : List Int) (e : Ending) (w' : World) : Prop :=
  e = .returned (.slice (some ⟨kb, 0, none⟩) l.length cap) ∧ Off (fun b => b = kb) w w' ∧ ∃ G, w'.rowIs kb 3 cap G ∧ ∀ j, j < l.length → G j = .int .i64 (l.getD j 0)

set_option maxHeartbeats 2000000 in
theorem deleteFunc_any (K : Nat) (caps : Array Value) (p : Int → Bool) (kb L cap : Nat) (ks : List Int) (G : Nat → Value) (w : World) (hL : ks.length = L) (hc : L ≤ cap) (hsm : cap ≤ 1000000000) (hG : w.rowIs kb 3 cap G) (hGk : ∀ j, j < L → G j = .int .i64 (ks.getD j 0))
    (eg : ∀ args w, (callFunc K args).run Try.prog w = .ok (.enter K args) w) (hT : TellsOff (fun b => b = kb) K caps p w) :
    Calls Try.prog 64 #[.slice (some ⟨kb, 0, none⟩) L cap, .func (.func K) #[] caps] w (Deleted w kb cap (flt p ks)) := by
  have di := indexFunc_any K caps p (some ⟨kb, 0, none⟩) cap ks w (by omega) (ints_of_row hG (by omega) (by rw [hL]; exact hGk)) eg (fun x w1 hb => hT x w1 (Off.of_below hb))
  rw [hL] at di
  have HG : Hid (w.rowIs kb 3 cap G) := hG
  have HGk : Hid _ := hGk
  have HT : Hid (TellsOff (fun b => b = kb) K caps p w) := hT
  have HL : Hid _ := hL
  have hkb := hG.lt
  clear hG hGk hT hL
  go_enter Try.func64, Try.ntmps64
  go_wp2_with fail
  refine di.mono ?_
  rintro e w1 ⟨r, rfl, hb1, hr⟩
  clear di
  rcases hr with ⟨rfl, hall⟩ | ⟨k, hk, rfl, hp, hf⟩
  · have hfl := flt_all p ks (by rw [HL.out]; exact hall)
    have E : Hid _ := hfl
    clear hall hfl
    go_wp2
    go_ret
    refine ⟨by rw [E.out, HL.out]; rfl, Off.of_below hb1, G, HG.out.of_block (hb1.block kb hkb), fun j hj => ?_⟩
    rw [E.out] at hj ⊢
    exact HGk.out j (by rw [← HL.out]; exact hj)
  · have hk1 : ((k : Int) == -1) = false := beq_eq_false_iff_ne.2 (by omega)
    have F0 : Hid (flt p (ks.take (k + 1)) = ks.take k) := by
      show _ = _
      rw [flt_succ p ks k (by rw [HL.out]; exact hk), hp, if_pos rfl, List.append_nil]
      refine flt_all p _ (fun i hi => ?_)
      rw [List.length_take] at hi
      have hks := HL.out
      have h1 := hf i (by omega)
      rw [getD_elem ks 0 (by omega)] at h1
      rw [getD_elem (ks.take k) 0 (by rw [List.length_take]; omega), List.getElem_take]
      exact h1
    have HR0 : Hid (w1.rowIs kb 3 cap G) := HG.out.of_block (hb1.block kb hkb)
    have FI : Hid (∀ t, t < k → G t = .int .i64 ((flt p (ks.take (k + 1))).getD t 0)) := fun t ht => by
      have hks := HL.out
      rw [F0.out, HGk.out t (by omega), getD_elem ks 0 (by omega), getD_elem (ks.take k) 0 (by rw [List.length_take]; omega), List.getElem_take]
    have FL : Hid ((flt p (ks.take (k + 1))).length = k) := by
      have hks := HL.out
      show _ = _
      rw [F0.out, List.length_take]; omega
    have O1 : Hid (Off (fun b => b = kb) w w1) := Off.of_below hb1
    clear hp hf hb1
    go_wp2
    go_loopg [5, 6] L (fun g1 s5 s6 wr => ∃ (i j : Nat) (G2 : Nat → Value), i < j ∧ j ≤ L ∧ L - j ≤ g1 ∧ s5 = .int .i64 i ∧ s6 = .int .i64 j ∧ Hid (Off (fun b => b = kb) w wr) ∧ Hid (wr.rowIs kb 3 cap G2) ∧ Hid ((flt p (ks.take j)).length = i) ∧ Hid (∀ t, t < i → G2 t = .int .i64 ((flt p (ks.take j)).getD t 0)) ∧ Hid (∀ t, j ≤ t → t < L → G2 t = .int .i64 (ks.getD t 0)))
    case atStart => exact ⟨k, k + 1, G, by omega, by omega, by omega, rfl, by go_num, O1, HR0, FL, FI, (show Hid _ from fun t _ ht => HGk.out t ht)⟩
    case round =>
      clear HR0 FI FL O1
      obtain ⟨i, j, G2, hij, hjL, hg1, rfl, rfl, O2, R2, L2, I2, J2⟩ := hrel
      have hkw : kb < wr.heap.size := R2.out.lt
      have hfz := R2.out.frozen
      by_cases hlt : j < L
      · have hlt2 : (j : Int) < (L : Int) := by omega
        have cj := R2.out.cell (i := j) (by omega)
        rw [J2.out j (Nat.le_refl _) hlt] at cj
        have ci := R2.out.cell (i := i) (by omega)
        have hcall := HT.out (ks.getD j 0) wr O2.out
        have FS := flt_succ p ks j (by rw [HL.out]; exact hlt)
        generalize hy : ks.getD j 0 = y at *
        have HY : Hid _ := hy
        clear hy
        cases hq : p y with
        | true =>
          rw [hq] at hcall FS
          rw [if_pos rfl, List.append_nil] at FS
          have HFS : Hid _ := FS
          clear FS
          go_wp2_with (go_at_fn K; refine hcall.mono ?_; rintro e w2 ⟨rfl, hb2⟩)
          go_roundg (L - (j + 1))
          case measure => omega
          case rel => exact ⟨i, j + 1, G2, by omega, by omega, by omega, rfl, by go_num, O2.out.trans (Off.of_below hb2), R2.out.of_block (hb2.block kb hkw), (show _ = _ by rw [HFS.out]; exact L2.out), (show Hid _ from fun t ht => by rw [HFS.out]; exact I2.out t ht), (show Hid _ from fun t h1 h2 => J2.out t (by omega) h2)⟩
        | false =>
          rw [hq] at hcall FS
          rw [if_neg (by simp)] at FS
          have HFS : Hid _ := FS
          clear FS
          go_wp2_with (go_at_fn K; refine hcall.mono ?_; rintro e w2 ⟨rfl, hb2⟩; have ci2 := (hb2.cell (by exact hkw)).trans ci; have hfz2 := fun o => (hb2.frozen (by exact hkw)).trans (hfz o))
          go_roundg (L - (j + 1))
          case measure => omega
          case rel =>
            refine ⟨i + 1, j + 1, _, by omega, by omega, by omega, by go_num, by go_num, (O2.out.trans (Off.of_below hb2)).trans (off_setCell (X := fun b => b = kb) _ rfl _), (R2.out.of_block (hb2.block kb hkw)).set i (.int .i64 y), (show _ = _ by rw [HFS.out, List.length_append, L2.out]; rfl), (show Hid _ from fun t ht => ?_), (show Hid _ from fun t h1 h2 => ?_)⟩
            · rw [HFS.out]
              by_cases e : t = i
              · subst e
                rw [if_pos rfl]
                simp [List.getD, L2.out]
              · rw [if_neg e, I2.out t (by omega)]
                simp [List.getD, List.getElem?_append, L2.out, show t < i by omega]
            · rw [if_neg (by omega)]
              exact J2.out t (by omega) h2
      · have hjL2 : j = L := by omega
        subst hjL2
        have hic : (i : Int) ≤ (cap : Int) := by omega
        have hiL : (i : Int) ≤ (j : Int) := by omega
        have EF : Hid (flt p (ks.take j) = flt p ks) := by
          show _ = _
          rw [← HL.out, List.take_length]
        have hcl : ∀ ty, (Builtin.clear_ #[41] ty #[.slice (some ⟨kb, i, none⟩) (j - i) (cap - i)]).run Try.prog wr = .ok (.tuple #[]) (wr.setCells kb i (List.replicate (j - i) (.int .i64 0))) := fun ty => Lib.run_clear_slice wr 41 3 ty (.int .i64 0) Try.underlying41 Try.zeroValue3 rfl rfl kb i (j - i) (cap - i) (by omega) (fun t ht => by rw [R2.out.cell (by omega)]; rfl) (fun t ht => hfz _)
        go_wp2
        go_ret
        refine ⟨?_, O2.out.trans (off_setCells (X := fun b => b = kb) rfl _ _ _), _, row_setCells _ _ _ _ R2.out, fun t ht => ?_⟩
        · rw [← EF.out, L2.out]; rfl
        · rw [← EF.out, L2.out] at ht
          rw [if_neg (by omega), I2.out t ht, EF.out]
end Go.Proofs.Ytplkfacaphejgaa

namespace Go.Proofs.Ytplkfacaphejgaa
open Go.RowKit

theorem WF.kid_deep {S : List Nd} (h : WF S) {f p : Nat} (hp : p < S.length) (hD : Deep S (f + 1) p) {x : Int} (hx : x ∈ (nd S p).ks) :
    ∃ k : Nat, x = k ∧ k < S.length ∧ (nd S k).u = true ∧ (nd S k).p = p ∧ rightUnder (nd S k) = p ∧ Deep S f k := by
  obtain ⟨k, rfl, h1, h2, h3, h4⟩ := h.kid hp hx
  have := (hD (k : Int) hx).2
  rw [Int.toNat_natCast] at this
  exact ⟨k, rfl, h1, h2, h3, h4, this⟩

theorem mem_order {S : List Nd} (h : WF S) : ∀ {f p : Nat}, p < S.length → Deep S f p → ∀ x ∈ orderF S f p, ∃ q : Nat, x = q ∧ q < S.length ∧ (q = p ∨ (nd S q).u = true) ∧ ∃ j, j ≤ f ∧ Up S j q p
  | 0, p, hp, _, x, hx => by
    have : x = (p : Int) := by simpa [orderF] using hx
    exact ⟨p, this, hp, Or.inl rfl, 0, Nat.le_refl _, rfl⟩
  | f + 1, p, hp, hD, x, hx => by
    simp only [orderF, List.mem_cons, List.mem_flatMap] at hx
    rcases hx with rfl | ⟨k, hk, hx⟩
    · exact ⟨p, rfl, hp, Or.inl rfl, 0, by omega, rfl⟩
    · obtain ⟨k, rfl, h1, h2, h3, h4, h5⟩ := h.kid_deep hp hD hk
      rw [Int.toNat_natCast] at hx
      obtain ⟨q, e, hq, hu, j, hj, hup⟩ := mem_order h h1 h5 x hx
      refine ⟨q, e, hq, Or.inr ?_, j + 1, by omega, hup.trans (WF.up_one hp h4)⟩
      rcases hu with rfl | hu
      · exact h2
      · exact hu

theorem nodup_flat {α β : Type} (g : α → List β) : ∀ (ks : List α), ks.Nodup → (∀ k ∈ ks, (g k).Nodup) → (∀ k ∈ ks, ∀ k' ∈ ks, k ≠ k' → ∀ x ∈ g k, x ∉ g k') → (ks.flatMap g).Nodup
  | [], _, _, _ => by simp
  | k :: ks, hn, hg, hd => by
    rw [List.flatMap_cons, List.nodup_append]
    obtain ⟨h1, h2⟩ := List.nodup_cons.1 hn
    refine ⟨hg k (by simp), nodup_flat g ks h2 (fun k' hk' => hg k' (by simp [hk'])) (fun a ha b hb => hd a (by simp [ha]) b (by simp [hb])), fun x hx y hy e => ?_⟩
    obtain ⟨k', hk', hy⟩ := List.mem_flatMap.1 hy
    exact hd k (by simp) k' (by simp [hk']) (fun e => h1 (by rw [e]; exact hk')) x hx (by rw [e]; exact hy)

theorem cntU_mono (S : List Nd) (j : Nat) : ∀ {k k' : Nat}, k ≤ k' → k' ≤ S.length → cntU S k j ≤ cntU S k' j := by
  intro k k' hk
  induction hk with
  | refl => intro _; exact Nat.le_refl _
  | step _ ih =>
    intro h
    rw [cntU_succ S _ j (by omega)]
    have := ih (by omega)
    omega

theorem WF.kids_nodup {S : List Nd} (h : WF S) {i : Nat} (hi : i < S.length) : (nd S i).ks.Nodup := by
  rw [List.nodup_iff_count]
  intro x
  by_cases hx : x ∈ (nd S i).ks
  · obtain ⟨k, rfl, hk, _⟩ := h.kid hi hx
    have h1 := (h.kids.2 k hk).1
    have h2 := cntU_succ S i k hi
    have h3 := cntU_mono S k (k := i + 1) (k' := S.length) (by omega) (Nat.le_refl _)
    omega
  · rw [List.count_eq_zero.2 hx]; omega

/-- Who has a parent stands in its children. -/
theorem WF.in_kids {S : List Nd} (h : WF S) {k : Nat} (hk : k < S.length) {y : Nat} (hp : (nd S k).p = y) : y < S.length ∧ (k : Int) ∈ (nd S y).ks := by
  have hc := (h.kids.2 k hk).2 (by omega)
  unfold cntU at hc
  rw [List.take_length] at hc
  have hm : (k : Int) ∈ S.flatMap Nd.ks := by
    by_cases hm : (k : Int) ∈ S.flatMap Nd.ks
    · exact hm
    · exact absurd (List.count_eq_zero.2 hm) hc
  obtain ⟨x, hx, hkx⟩ := List.mem_flatMap.1 hm
  obtain ⟨i, hi, rfl⟩ := List.getElem_of_mem hx
  rw [← nd_elem hi] at hkx
  obtain ⟨k', e, _, _, h3, _⟩ := h.kid hi hkx
  have : k' = k := by omega
  subst this
  have : y = i := by omega
  subst this
  exact ⟨hi, hkx⟩

theorem nodup_order {S : List Nd} (h : WF S) : ∀ {f p : Nat}, p < S.length → f ≤ S.length → Deep S f p → (orderF S f p).Nodup
  | 0, p, _, _, _ => by simp [orderF]
  | f + 1, p, hp, hf, hD => by
    simp only [orderF]
    rw [List.nodup_cons]
    refine ⟨fun hm => ?_, nodup_flat _ _ (h.kids_nodup hp) (fun x hx => ?_) (fun x hx y hy hne z hz hz' => ?_)⟩
    · obtain ⟨x, hx, hm⟩ := List.mem_flatMap.1 hm
      obtain ⟨k, rfl, h1, h2, h3, h4, h5⟩ := h.kid_deep hp hD hx
      rw [Int.toNat_natCast] at hm
      obtain ⟨q, e, hq, _, j, hj, hup⟩ := mem_order h h1 h5 _ hm
      have : q = p := by omega
      subst this
      exact h.no_ring hp (j := j + 1) (by omega) (by omega) (hup.trans (WF.up_one hp h4))
    · obtain ⟨k, rfl, h1, h2, h3, h4, h5⟩ := h.kid_deep hp hD hx
      rw [Int.toNat_natCast]
      exact nodup_order h h1 (by omega) h5
    · obtain ⟨k, rfl, h1, h2, h3, h4, h5⟩ := h.kid_deep hp hD hx
      obtain ⟨k', rfl, h1', h2', h3', h4', h5'⟩ := h.kid_deep hp hD hy
      rw [Int.toNat_natCast] at hz hz'
      obtain ⟨q, e, hq, _, j, hj, hup⟩ := mem_order h h1 h5 _ hz
      obtain ⟨q', e', hq', _, j', hj', hup'⟩ := mem_order h h1' h5' _ hz'
      have : q = q' := by omega
      subst this
      have u1 := hup.trans (WF.up_one hp h4)
      have u2 := hup'.trans (WF.up_one hp h4')
      have hjj : j = j' := by
        rcases Nat.lt_trichotomy j j' with hlt | e | hlt
        · obtain ⟨y, v1, v2⟩ := Up.split (i := j + 1) (j := j' - j) (by rw [show j + 1 + (j' - j) = j' + 1 by omega]; exact u2)
          have := Up.det v1 u1
          subst this
          exact absurd v2 (h.no_ring hp (by omega) (by omega))
        · exact e
        · obtain ⟨y, v1, v2⟩ := Up.split (i := j' + 1) (j := j - j') (by rw [show j' + 1 + (j - j') = j + 1 by omega]; exact u1)
          have := Up.det v1 u2
          subst this
          exact absurd v2 (h.no_ring hp (by omega) (by omega))
      subst hjj
      exact hne (by rw [Up.det hup hup'])

theorem order_le {S : List Nd} (h : WF S) {p : Nat} (hp : p < S.length) : (orderF S S.length p).length ≤ S.length := by
  have h1 := nodup_order h hp (Nat.le_refl _) (h.deep_all hp)
  have := h1.length_le_of_subset (l₂ := (List.range S.length).map (fun i : Nat => (i : Int))) (fun x hx => by
    obtain ⟨q, rfl, hq, _⟩ := mem_order h hp (h.deep_all hp) x hx
    exact List.mem_map.2 ⟨q, List.mem_range.2 hq, rfl⟩)
  simpa using this

/-- Each stands behind its parent. -/
def Par (S : List Nd) : List Int → List Int → Prop
  | _, [] => True
  | seen, x :: r => (nd S x.toNat).p ∈ seen ∧ Par S (seen ++ [x]) r

theorem Par.append {S : List Nd} : ∀ {a b seen : List Int}, Par S seen a → Par S (seen ++ a) b → Par S seen (a ++ b)
  | [], b, seen, _, hb => by simpa using hb
  | x :: a, b, seen, ⟨h1, h2⟩, hb => ⟨h1, Par.append h2 (by simpa using hb)⟩

theorem Par.flat {S : List Nd} {p : Int} (g : Int → List Int) : ∀ (ks seen : List Int), p ∈ seen → (∀ k ∈ ks, ∀ seen', p ∈ seen' → Par S seen' (g k)) → Par S seen (ks.flatMap g)
  | [], _, _, _ => trivial
  | k :: ks, seen, hp, hg => by
    rw [List.flatMap_cons]
    exact Par.append (hg k (by simp) seen hp) (Par.flat g ks _ (by simp [hp]) (fun k' hk' => hg k' (by simp [hk'])))

theorem par_order {S : List Nd} (h : WF S) : ∀ {f p : Nat} {seen : List Int}, p < S.length → Deep S f p → (nd S p).p ∈ seen → Par S seen (orderF S f p)
  | 0, p, seen, _, _, hm => ⟨by simpa using hm, trivial⟩
  | f + 1, p, seen, hp, hD, hm => by
    refine ⟨by simpa using hm, Par.flat (p := (p : Int)) _ _ _ (by simp) (fun x hx seen' hs => ?_)⟩
    obtain ⟨k, rfl, h1, h2, h3, h4, h5⟩ := h.kid_deep hp hD hx
    rw [Int.toNat_natCast]
    exact par_order h h1 h5 (by rw [h3]; exact hs)

theorem par_root {S : List Nd} (h : WF S) {f p : Nat} (hp : p < S.length) (hD : Deep S f p) : ∃ r, orderF S f p = (p : Int) :: r ∧ Par S [(p : Int)] r := by
  cases f with
  | zero => exact ⟨[], rfl, trivial⟩
  | succ f =>
    refine ⟨_, rfl, Par.flat (p := (p : Int)) _ _ _ (by simp) (fun x hx seen' hs => ?_)⟩
    obtain ⟨k, rfl, h1, h2, h3, h4, h5⟩ := h.kid_deep hp hD hx
    rw [Int.toNat_natCast]
    exact par_order h h1 h5 (by rw [h3]; exact hs)

theorem Par.get {S : List Nd} : ∀ {r seen : List Int} {i : Nat}, Par S seen r → i < r.length → (nd S (r.getD i 0).toNat).p ∈ seen ++ r.take i
  | x :: r, seen, 0, ⟨h1, _⟩, _ => by simpa using h1
  | x :: r, seen, i + 1, ⟨_, h2⟩, hi => by
    have := Par.get h2 (i := i) (by simpa using hi)
    simpa using this

theorem kid_in {S : List Nd} (h : WF S) : ∀ {f p : Nat}, p < S.length → Deep S f p → ∀ y ∈ orderF S f p, ∀ k ∈ (nd S y.toNat).ks, k ∈ orderF S f p
  | 0, p, _, hD, y, hy, k, hk => by
    have : y = (p : Int) := by simpa [orderF] using hy
    subst this
    rw [Int.toNat_natCast, show (nd S p).ks = [] from hD] at hk
    cases hk
  | f + 1, p, hp, hD, y, hy, k, hk => by
    simp only [orderF, List.mem_cons, List.mem_flatMap] at hy ⊢
    right
    rcases hy with rfl | ⟨x, hx, hy⟩
    · rw [Int.toNat_natCast] at hk
      obtain ⟨k', rfl, h1, h2, h3, h4, h5⟩ := h.kid_deep hp hD hk
      refine ⟨_, hk, ?_⟩
      rw [Int.toNat_natCast]
      cases f <;> simp [orderF]
    · obtain ⟨k', rfl, h1, h2, h3, h4, h5⟩ := h.kid_deep hp hD hx
      rw [Int.toNat_natCast] at hy
      refine ⟨_, hx, ?_⟩
      rw [Int.toNat_natCast]
      exact kid_in h h1 h5 y hy k hk

def orderS (S : List Nd) (p : Nat) : List Int := orderF S S.length p
end Go.Proofs.Ytplkfacaphejgaa
