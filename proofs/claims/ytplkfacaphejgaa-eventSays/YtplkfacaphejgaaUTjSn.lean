/-
  The contract of enter: the walk. And of leave, of a node that has no Parent.
-/
import Derived.Test.YtplkfacaphejgaaUTgThTi
import Derived.Test.YtplkfacaphejgaaURaSlSmBkBoLay
namespace Go.Proofs.Ytplkfacaphejgaa
open Go.RowKit

theorem off_setCell {X : Nat → Prop} {a : Addr} (w : World) (hX : X a.block) (v : Value) : Off X w (w.setCell a v) :=
  ⟨rfl, rfl, rfl, by simp, fun k _ hx => Below.heap_setCell w a v k (fun e => hx (by rw [e]; exact hX))⟩

theorem Off.frozen {X : Nat → Prop} {w w' : World} (h : Off X w w') {p : Addr} (hp : p.block < w.heap.size) (hx : ¬ X p.block) : w'.frozen? p = w.frozen? p := by
  unfold World.frozen?
  rw [h.block _ hp hx]

set_option maxHeartbeats 1000000 in
theorem leave_none (g c N ch : Nat) (w : World) (hch : ch < N) (hp : w.cell? ⟨g, ch * 8 + 4, none⟩ = some (.int .i64 (-1))) :
    Calls Try.prog 43 #[.slice (some ⟨g, 0, none⟩) N c, .int .i64 ch] w fun e w' => e = .returned (.tuple #[]) ∧ Below w.heap.size w w' := by
  have hch2 : (ch : Int) < (N : Int) := by omega
  have hgw := World.block_lt_of_cell? _ _ hp
  go_enter Try.func43, Try.ntmps43
  go_wp2
  exact bodyPost_ret (v := .tuple #[]) (by simp [results, Try.results43, go_sem]) rfl ⟨rfl, (Below.refl _ _).alloc (Nat.le_refl _) _⟩

set_option maxHeartbeats 2000000 in
theorem enter_any (B g c : Nat) (S : List Nd) (kb kc : Nat → Nat) (pa ch at' : Nat) (ha : Option Addr) (hc : Nat) (hs : List (Int × Int)) (w : World) (hO : Own w B g S kb kc S.length) (hpa : pa < S.length) (hch : ch < S.length) (hne : pa ≠ ch) (hs1 : hs.length ≤ 1) (hH : HandsAt w ha hs) (hat : atS (nd S pa).ks hs = at') (hatL : at' ≤ (nd S pa).ks.length) :
    Calls Try.prog 44 #[.slice (some ⟨g, 0, none⟩) S.length c, .int .i64 pa, .int .i64 ch, .slice ha hs.length hc] w fun e w' => e = .returned (.tuple #[]) ∧ Off (fun b => b = g ∨ b = kb pa) w w' ∧ ∀ w3 : World, (∀ b, g ≤ b → w3.heap[b]? = w'.heap[b]?) → NdsAt w3 (some ⟨g, 0, none⟩) (enterS S pa ch at') := by
  have AF : Hid (∀ (W w2 : World) (kb' kc' : Nat) (G' : Nat → Value), Below w.heap.size w W → (kb' = kb pa ∨ W.heap.size ≤ kb') → Off (fun b => b = kb pa) W w2 → w2.rowIs kb' 3 kc' G' → (ins (nd S pa).ks at' ch).length ≤ kc' → (∀ j, j < (ins (nd S pa).ks at' ch).length → G' j = .int .i64 ((ins (nd S pa).ks at' ch).getD j 0)) → ∀ w3 : World, (∀ b, g ≤ b → w3.heap[b]? = ((w2.setCell ⟨g, pa * 8 + 5, none⟩ (.slice (some ⟨kb', 0, none⟩) (ins (nd S pa).ks at' ch).length kc')).setCell ⟨g, ch * 8 + 4, none⟩ (.int .i64 pa)).heap[b]?) → NdsAt w3 (some ⟨g, 0, none⟩) (enterS S pa ch at')) := fun W w2 kb' kc' G' h1 h2 h3 h4 h5 h6 => enter_after hO h1 hpa hch hne hatL h2 h3 h4 h5 h6
  have HH : Hid (HandsAt w ha hs) := hH
  obtain ⟨hB, F, hF, hNd, hg, hd⟩ := hO
  obtain ⟨e0, e1, e2, e3, e4, e5, e6, e7, e8, e8b, G, hG, e9⟩ := hNd pa hpa
  obtain ⟨f0, f1, f2, f3, f4, f5, f6, f7, f8, f8b, G2, hG2, f9⟩ := hNd ch hch
  have hgl := hF.lt
  have hfz := hF.frozen
  have q5 : w.cell? ⟨g, pa * 8 + 5, none⟩ = some (.slice (some ⟨kb pa, 0, none⟩) (nd S pa).ks.length (kc pa)) := by rw [hF.cell (by omega), e5]
  have q4 : w.cell? ⟨g, ch * 8 + 4, none⟩ = some (.int .i64 (nd S ch).p) := by rw [hF.cell (by omega), f4]
  have hkl := hG.lt
  have hkg := hg pa hpa
  have dx := fun (v : Int) (W : World) (hW : Below w.heap.size w W) => index_any (some ⟨kb pa, 0, none⟩) (kc pa) (nd S pa).ks v W (by omega) ((ints_of_row hG e8 e9).below hW)
  have DX : Hid _ := dx
  have di := fun (W : World) (hW : Below w.heap.size w W) (vb : Nat) (hvb : vb ≠ kb pa) (hv : W.heap[vb]? = some (.cells #[.int .i64 (ch : Int)] 3 (0, 0))) => insert1_any (kb pa) (nd S pa).ks.length (kc pa) vb at' (nd S pa).ks ch W rfl hatL e8 e8b G (hG.of_block (hW.block _ hG.lt)) e9 hvb hv
  have DI : Hid _ := di
  have hpa2 : (pa : Int) < (S.length : Int) := by omega
  have hch2 : (ch : Int) < (S.length : Int) := by omega
  have H1 : Hid (hs.length ≤ 1) := hs1
  have HAT : Hid _ := hat
  have hLs : (nd S pa).ks.length ≤ 1000 := by omega
  clear e0 e1 e2 e3 e4 e5 e6 e7 e8 e8b hG e9 f0 f1 f2 f3 f4 f5 f6 f7 f8 f8b hG2 f9 hF hNd hd hg dx di hH hat
  generalize hL : (nd S pa).ks.length = L at *
  have HL : Hid _ := hL
  clear hL
  generalize hn : S.length = n at *
  generalize hm : hs.length = m at *
  have HM : Hid _ := hm
  clear hn hm
  have hm1 : m ≤ 1 := hs1
  go_enter Try.func44, Try.ntmps44
  go_wp2
  go_loopg [9, 21] m (fun g1 s9 s21 wr => ∃ (k : Nat) (x : Int), k ≤ m ∧ m - k ≤ g1 ∧ s21 = .int .i64 k ∧ s9 = .int .i64 x ∧ Below w.heap.size w wr ∧ Hid (x = atS (nd S pa).ks (hs.take k)))
  case atStart => exact ⟨0, L, by omega, by omega, rfl, rfl, Below.refl _ _, (show _ = _ by rw [← HL.out]; rfl)⟩
  case round =>
    obtain ⟨k, x, hk, hg1, rfl, rfl, hb, A⟩ := hrel
    by_cases hlt : k < m
    · have hk0 : k = 0 := by omega
      obtain ⟨b, o, rfl, c0, c1⟩ := (HH.out.below hb) k (by rw [HM.out]; exact hlt)
      have hlt2 : (k : Int) < (m : Int) := by omega
      have hbw := World.block_lt_of_cell? _ _ c0
      have TK : Hid (atS (nd S pa).ks (hs.take (k + 1)) = idx (nd S pa).ks (hs.getD k (0, 0)).1) := by
        subst hk0
        show _ = _
        obtain ⟨h0, hr, rfl⟩ : ∃ h0 hr, hs = h0 :: hr := by
          cases hs with
          | nil => have := HM.out; simp at this; omega
          | cons a r => exact ⟨a, r, rfl⟩
        rfl
      generalize (hs.getD k (0, 0)).1 = pv at *
      generalize (hs.getD k (0, 0)).2 = uv at *
      have d1 := fun o1 => DX.out pv (wr.alloc o1) (hb.alloc hb.size o1)
      generalize idx (nd S pa).ks pv = ix at *
      clear hk0
      go_wp2_with (go_at_call 55; refine (d1 _).mono ?_; rintro e w2 ⟨rfl, rfl⟩)
      go_roundg (m - (k + 1))
      case measure => omega
      case rel => exact ⟨k + 1, ix, by omega, by omega, by go_num, rfl, hb.alloc hb.size _, TK.out.symm⟩
    · have hkm : k = m := by omega
      have hxa : x = (at' : Int) := by
        rw [A.out, hkm, ← HM.out, List.take_length]; exact HAT.out
      subst hkm
      subst hxa
      have r5 := (hb.cell (by exact hgl)).trans q5
      have r4 := (hb.cell (by exact hgl)).trans q4
      have rf := fun o => (hb.frozen (by exact hgl)).trans (hfz o)
      have hkw : kb pa < wr.heap.size := Nat.lt_of_lt_of_le hkl hb.size
      have HV : Hid ((wr.alloc (.cells #[.int .i64 (ch : Int)] 3)).heap[wr.heap.size]? = some (.cells #[.int .i64 (ch : Int)] 3 (0, 0))) := heap_alloc_new wr _
      clear A
      have HFR : Hid (∀ w2, Off (fun b => b = kb pa) (wr.alloc (.cells #[.int .i64 (ch : Int)] 3)) w2 → w2.cell? ⟨g, pa * 8 + 5, none⟩ = some (.slice (some ⟨kb pa, 0, none⟩) L (kc pa)) ∧ (∀ v, (w2.setCell ⟨g, pa * 8 + 5, none⟩ v).cell? ⟨g, ch * 8 + 4, none⟩ = some (.int .i64 (nd S ch).p)) ∧ (∀ o, w2.frozen? ⟨g, o, none⟩ = false)) := fun w2 h2 => by
        have hgw : g < wr.heap.size := Nat.lt_of_lt_of_le hgl hb.size
        have hal := (Below.refl _ wr).alloc (Nat.le_refl _) (.cells #[.int .i64 (ch : Int)] 3)
        refine ⟨?_, fun v => ?_, fun o => ?_⟩
        · exact ((h2.cell (by simp; omega) (by simp; omega)).trans (hal.cell (by exact hgw))).trans r5
        · rw [World.cell?_setCell_other _ _ _ _ (by simp)]
          exact ((h2.cell (by simp; omega) (by simp; omega)).trans (hal.cell (by exact hgw))).trans r4
        · exact ((h2.frozen (by simp; omega) (by simp; omega)).trans (hal.frozen (by exact hgw))).trans (rf o)
      go_wp2_with (go_at_call 66; refine (DI.out _ (hb.alloc hb.size _) wr.heap.size (by omega) HV.out).mono ?_; rintro e w2 ⟨kb', kc', rfl, hkc', hkb', hoff, G', hG', hGk'⟩; obtain ⟨s5, s4, sf⟩ := HFR.out w2 hoff; have HG' : Hid _ := hG'; have HGk : Hid _ := hGk'; have HOFF : Hid _ := hoff; clear hG' hGk' hoff)
      refine bodyPost_end (v := .tuple #[]) (by simp [results, Try.results44, go_sem]) rfl ⟨rfl, ?_, ?_⟩
      · have h1 : Off (fun b => b = g ∨ b = kb pa) w w2 := (Off.of_below (hb.alloc hb.size _)).trans (HOFF.out.mono (fun k _ h => Or.inr h))
        exact (h1.trans (off_setCell _ (Or.inl rfl) _)).trans (off_setCell _ (Or.inl rfl) _)
      · exact AF.out _ _ _ _ _ (hb.alloc hb.size _) hkb' HOFF.out HG'.out hkc' HGk.out
end Go.Proofs.Ytplkfacaphejgaa

namespace Go.Proofs.Ytplkfacaphejgaa
open Go.RowKit

/-- A right store. -/
structure WF (S : List Nd) : Prop where
  small : S.length ≤ 24
  node : ∀ i, i < S.length → nodeE S.length (nd S i) = 0
  kids : KidsOk S
  hosts : HostU S S.length
  noring : ∀ i, i < S.length → underB S i i = false

theorem firstE_zero (N : Int) : ∀ l : List Nd, firstE N l = 0 ↔ ∀ x ∈ l, nodeE N x = 0
  | [] => by simp [firstE]
  | x :: r => by
    simp only [firstE, List.mem_cons]
    by_cases h : nodeE N x = 0
    · rw [if_pos h, firstE_zero N r]
      exact ⟨fun H y hy => hy.elim (fun e => by rw [e]; exact h) (H y), fun H y hy => H y (Or.inr hy)⟩
    · rw [if_neg h]
      exact ⟨fun H => absurd H h, fun H => absurd (H x (Or.inl rfl)) h⟩

theorem wf_iff (S : List Nd) : checkE S = 0 ↔ WF S := by
  unfold checkE treeE ringB
  constructor
  · intro h
    split at h
    · omega
    · rename_i h24
      split at h
      · rename_i h1
        rw [firstE_zero] at h1
        split at h
        · rename_i h2
          split at h
          · rename_i h3
            split at h
            · omega
            · rename_i h4
              refine ⟨by omega, fun i hi => h1 _ (by rw [nd_elem hi]; exact List.getElem_mem hi), of_decide_eq_true h2, of_decide_eq_true h3, fun i hi => ?_⟩
              simp only [Bool.not_eq_true, List.any_eq_false, List.mem_range] at h4
              have := h4 i hi
              simpa using this
          · omega
        · omega
      · exact absurd h (by assumption)
  · rintro ⟨h0, h1, h2, h3, h4⟩
    rw [if_neg (by omega), if_pos ((firstE_zero _ _).2 fun x hx => by
      obtain ⟨i, hi, rfl⟩ := List.getElem_of_mem hx
      have := h1 i hi
      rwa [nd_elem hi] at this), if_pos (decide_eq_true h2), if_pos (decide_eq_true h3), if_neg]
    simp only [Bool.not_eq_true, List.any_eq_false, List.mem_range]
    intro i hi
    rw [h4 i hi]

theorem node_parts {N : Int} {x : Nd} (h : nodeE N x = 0) : rangeB x = true ∧ namesB N x = true ∧ formB x = true := by
  unfold nodeE at h
  split at h
  · split at h
    · split at h
      · exact ⟨by assumption, by assumption, by assumption⟩
      · omega
    · omega
  · omega

theorem WF.kid {S : List Nd} (h : WF S) {i : Nat} (hi : i < S.length) {x : Int} (hx : x ∈ (nd S i).ks) :
    ∃ k : Nat, x = k ∧ k < S.length ∧ (nd S k).u = true ∧ (nd S k).p = i ∧ rightUnder (nd S k) = i := by
  have h1 := (names_ks (names_of (h.node i hi))).1 x hx
  obtain ⟨h2, h3, h4⟩ := h.kids.1 i hi x hx
  obtain ⟨k, rfl⟩ : ∃ k : Nat, x = (k : Int) := ⟨x.toNat, by omega⟩
  have hk : k < S.length := by omega
  simp only [Int.toNat_natCast] at h3 h4
  refine ⟨k, rfl, hk, h3, h4, ?_⟩
  have hf := (node_parts (h.node k hk)).2.2
  unfold formB at hf
  rw [if_pos h3] at hf
  unfold rightUnder
  split at hf
  · cases hf
  · split at hf
    · rename_i hh
      rw [if_pos hh]; exact h4
    · have := of_decide_eq_true hf
      omega

/-- x climbs to p in so many steps, all of them places. -/
def Up (S : List Nd) : Nat → Nat → Nat → Prop
  | 0, x, p => x = p
  | j + 1, x, p => ∃ y : Nat, y < S.length ∧ rightUnder (nd S x) = y ∧ Up S j y p

theorem Up.det {S : List Nd} : ∀ {j x p q : Nat}, Up S j x p → Up S j x q → p = q
  | 0, _, _, _, h, k => by cases h; cases k; rfl
  | j + 1, _, _, _, ⟨y, _, h2, h3⟩, ⟨y', _, k2, k3⟩ => by
    have : y = y' := by omega
    subst this
    exact Up.det h3 k3

theorem Up.trans {S : List Nd} : ∀ {i j x y z : Nat}, Up S i x y → Up S j y z → Up S (i + j) x z
  | 0, j, _, _, _, h, k => by cases h; simpa using k
  | i + 1, j, _, _, _, ⟨y', h1, h2, h3⟩, k => by
    rw [show i + 1 + j = (i + j) + 1 by omega]
    exact ⟨y', h1, h2, Up.trans h3 k⟩

theorem Up.split {S : List Nd} : ∀ {i j x z : Nat}, Up S (i + j) x z → ∃ y, Up S i x y ∧ Up S j y z
  | 0, j, x, _, h => ⟨x, rfl, by simpa using h⟩
  | i + 1, j, x, z, h => by
    rw [show i + 1 + j = (i + j) + 1 by omega] at h
    obtain ⟨y', h1, h2, h3⟩ := h
    obtain ⟨y, k1, k2⟩ := Up.split h3
    exact ⟨y, ⟨y', h1, h2, k1⟩, k2⟩

theorem climb_up {S : List Nd} : ∀ {j x above f : Nat} (st : Bool), Up S (j + 1) x above → j + 1 ≤ f → climbF S rightUnder (underStep above) f (rightUnder (nd S x)) st = true
  | j, x, above, 0, _, _, hf => by omega
  | j, x, above, f + 1, st, ⟨y, h1, h2, h3⟩, hf => by
    rw [h2]
    have hp : isPl S.length (y : Int) = true := decide_eq_true ⟨by omega, by omega⟩
    simp only [climbF, hp, if_true, underStep, Int.toNat_natCast]
    by_cases e : (y : Int) = (above : Int)
    · simp [e]
    · simp only [decide_eq_false e, Bool.not_false, if_true]
      cases j with
      | zero => exact absurd (by cases h3; rfl) e
      | succ j => exact climb_up _ h3 (by omega)

theorem WF.no_ring {S : List Nd} (h : WF S) {x j : Nat} (hx : x < S.length) (h1 : 1 ≤ j) (h2 : j ≤ S.length) : ¬ Up S j x x := fun hu => by
  obtain ⟨j, rfl⟩ : ∃ i, j = i + 1 := ⟨j - 1, by omega⟩
  have := h.noring x hx
  unfold underB at this
  have hp : isPl S.length (x : Int) = true := decide_eq_true ⟨by omega, by omega⟩
  rw [hp, if_pos rfl, Int.toNat_natCast, climb_up false hu h2] at this
  cases this

theorem WF.up_one {S : List Nd} {i k : Nat} (hi : i < S.length) (hr : rightUnder (nd S k) = i) : Up S 1 k i := ⟨i, hi, hr, rfl⟩

theorem nodup_le {N : Nat} {l : List Nat} (h : l.Nodup) (hl : ∀ y ∈ l, y < N) : l.length ≤ N := by
  have := h.length_le_of_subset (l₂ := List.range N) (fun y hy => List.mem_range.2 (hl y hy))
  simpa using this

theorem WF.deep {S : List Nd} (h : WF S) : ∀ (f x : Nat) (r : List Nat), x < S.length → (x :: r).Nodup → (∀ y ∈ r, y < S.length) → (∀ y ∈ r, ∃ j, 1 ≤ j ∧ j ≤ r.length ∧ Up S j x y) → S.length ≤ f + r.length + 1 → Deep S f x := by
  have step : ∀ (x : Nat) (r : List Nat), x < S.length → (x :: r).Nodup → (∀ y ∈ r, y < S.length) → (∀ y ∈ r, ∃ j, 1 ≤ j ∧ j ≤ r.length ∧ Up S j x y) → ∀ k : Nat, k < S.length → rightUnder (nd S k) = x →
      (k :: x :: r).Nodup ∧ (∀ y ∈ x :: r, y < S.length) ∧ (∀ y ∈ x :: r, ∃ j, 1 ≤ j ∧ j ≤ (x :: r).length ∧ Up S j k y) := fun x r hx hn hr hu k hk hrk => by
    have hall : ∀ y ∈ x :: r, y < S.length := fun y hy => by
      rcases List.mem_cons.1 hy with rfl | hy
      · exact hx
      · exact hr y hy
    have hlen := nodup_le hn hall
    have hup : ∀ y ∈ x :: r, ∃ j, 1 ≤ j ∧ j ≤ (x :: r).length ∧ Up S j k y := fun y hy => by
      rcases List.mem_cons.1 hy with rfl | hy
      · exact ⟨1, by omega, by simp, WF.up_one hx hrk⟩
      · obtain ⟨j, j1, j2, j3⟩ := hu y hy
        exact ⟨1 + j, by omega, by simp; omega, (WF.up_one hx hrk).trans j3⟩
    refine ⟨List.nodup_cons.2 ⟨fun hm => ?_, hn⟩, hall, hup⟩
    obtain ⟨j, j1, j2, j3⟩ := hup k hm
    exact h.no_ring hk j1 (by omega) j3
  intro f
  induction f with
  | zero =>
    intro x r hx hn hr hu hf
    show (nd S x).ks = []
    cases hks : (nd S x).ks with
    | nil => rfl
    | cons k ks =>
      obtain ⟨k', rfl, hk, _, _, hrk⟩ := h.kid hx (x := k) (by rw [hks]; simp)
      obtain ⟨h1, h2, h3⟩ := step x r hx hn hr hu k' hk hrk
      have := nodup_le h1 (fun y hy => by
        rcases List.mem_cons.1 hy with rfl | hy
        · exact hk
        · exact h2 y hy)
      simp at this
      omega
  | succ f ih =>
    intro x r hx hn hr hu hf k hk
    obtain ⟨k', rfl, hk', _, _, hrk⟩ := h.kid hx hk
    obtain ⟨h1, h2, h3⟩ := step x r hx hn hr hu k' hk' hrk
    refine ⟨⟨by omega, by omega⟩, ?_⟩
    rw [Int.toNat_natCast]
    exact ih k' (x :: r) hk' h1 h2 h3 (by simp; omega)

theorem WF.deep_all {S : List Nd} (h : WF S) {p : Nat} (hp : p < S.length) : Deep S S.length p :=
  h.deep S.length p [] hp (by simp) (fun y hy => by cases hy) (fun y hy => by cases hy) (by omega)
end Go.Proofs.Ytplkfacaphejgaa
