/-
  ShadowOpen: a root that isn't closed, without the program; the walks.
-/
import Derived.Test.YtjlapfgghljidabUZiZk
import Derived.Test.YtjlapfgghljidabUZh
import Derived.Deep.RegionHeld3
namespace Go.Proofs.Ytjlapfgghljidab
open Go.RowKit

theorem attach_nd {S : List Nd} (h : WF S) {f k x : Nat} (hf : f < S.length) (hfr : freeB (nd S f) = true) (hx : x < S.length) (hxu : (nd S x).u = true) (cl : Bool) :
    (∀ y ∈ pathF S x, nd (S.set f (rootNd (nd S f) k cl)) y.toNat = nd S y.toNat) ∧ pathF (S.set f (rootNd (nd S f) k cl)) x = pathF S x ∧ (f : Int) ∉ pathF S x := by
  have hfu := (free_parts hfr).1
  have hne : ∀ y ∈ pathF S x, ∃ q : Nat, y = q ∧ q ≠ f := fun y hy => by
    obtain ⟨q, e1, _, e3⟩ := h.path_used hx hxu hy
    exact ⟨q, e1, fun e => by rw [e, hfu] at e3; cases e3⟩
  have hnd : ∀ y ∈ pathF S x, nd (S.set f (rootNd (nd S f) k cl)) y.toNat = nd S y.toNat := fun y hy => by
    obtain ⟨q, rfl, hq⟩ := hne y hy
    rw [Int.toNat_natCast, nd_set S f q _ hf, if_neg hq]
  refine ⟨hnd, path_congr (by simp) (fun y hy => by rw [hnd y hy]), fun hm => ?_⟩
  obtain ⟨q, e1, e2⟩ := hne _ hm
  exact e2 (by omega)

theorem flt_congr {p q : Int → Bool} : ∀ {l : List Int}, (∀ x ∈ l, p x = q x) → flt p l = flt q l := fun {l} h => by
  unfold flt
  exact List.filter_congr (fun x hx => by rw [h x hx])

theorem attach_roots {S : List Nd} (h : WF S) {f k p q : Nat} (hf : f < S.length) (hfr : freeB (nd S f) = true) (hp : p < S.length) (hpu : (nd S p).u = true) (hq : q < S.length) (hqu : (nd S q).u = true) (cl : Bool) :
    rootsF (S.set f (rootNd (nd S f) k cl)) p q = rootsF S p q ∧ seenF (S.set f (rootNd (nd S f) k cl)) p q = seenF S p q := by
  obtain ⟨_, p2, _⟩ := attach_nd h (k := k) hf hfr hp hpu cl
  obtain ⟨q1, q2, _⟩ := attach_nd h (k := k) hf hfr hq hqu cl
  have e1 : rootsF (S.set f (rootNd (nd S f) k cl)) p q = rootsF S p q := by
    unfold rootsF
    rw [p2, q2]
    refine flt_congr (fun x hx => ?_)
    unfold outB
    rw [q1 x hx]
  refine ⟨e1, ?_⟩
  unfold seenF
  rw [e1]
  congr 1
  rw [Bool.eq_iff_iff, List.any_eq_true, List.any_eq_true]
  constructor
  · rintro ⟨x, hx, hc⟩
    rw [q1 x (mem_roots.1 hx).1] at hc
    exact ⟨x, hx, hc⟩
  · rintro ⟨x, hx, hc⟩
    exact ⟨x, hx, by rw [q1 x (mem_roots.1 hx).1]; exact hc⟩

theorem attach_open {S : List Nd} (h : WF S) {f k p : Nat} (hf : f < S.length) (hfr : freeB (nd S f) = true) (hk : k < S.length) (hku : (nd S k).u = true) (hH : hostB S k = false) (hp : p < S.length) (hpu : (nd S p).u = true) :
    seenF (S.set f (rootNd (nd S f) k false)) p f = seenF (S.set f (rootNd (nd S f) k false)) p k := by
  have wf2 := h.attach false hf hfr hk hku hH
  have hl : (S.set f (rootNd (nd S f) k false)).length = S.length := by simp
  have hnf : nd (S.set f (rootNd (nd S f) k false)) f = rootNd (nd S f) k false := by rw [nd_set S f f _ hf, if_pos rfl]
  have hr : rightUnder (nd (S.set f (rootNd (nd S f) k false)) f) = k := by
    rw [hnf]
    unfold rightUnder rootNd madeNd
    dsimp only
    rw [if_neg (by omega)]
  have hpath := wf2.path_up (k := f) (q := k) (by rw [hl]; exact hf) (by rw [hl]; exact hk) hr
  obtain ⟨_, p2, p3⟩ := attach_nd h (k := k) hf hfr hp hpu false
  have hroots : rootsF (S.set f (rootNd (nd S f) k false)) p f = (f : Int) :: rootsF (S.set f (rootNd (nd S f) k false)) p k := by
    unfold rootsF
    rw [hpath]
    unfold flt
    rw [List.filter_cons, if_pos]
    unfold outB
    rw [p2, Int.toNat_natCast, hnf]
    have h1 : ¬ (rootNd (nd S f) k false).h = -1 := by
      unfold rootNd
      dsimp only
      omega
    simp [p3, h1]
  unfold seenF
  rw [hroots, List.any_cons, Int.toNat_natCast, hnf]
  have : (rootNd (nd S f) k false).c = false := rfl
  rw [this, Bool.false_or]

theorem open_low {w w1 : World} {a : Option Addr} {n c : Nat} {h uh p u q v : Int} (hb : Below (w.heap.size + 1 + 1 + 1 + 1) ((((w.alloc (.cells #[.slice a n c] 24)).alloc (.cells #[.int .i64 h, .int .i64 uh] 26)).alloc (.cells #[.int .i64 p, .int .i64 u] 26)).alloc (.cells #[.int .i64 q, .int .i64 v] 26)) w1) :
    w1.cell? ⟨w.heap.size, 0, none⟩ = some (.slice a n c) ∧ (w1.cell? ⟨w.heap.size + 1, 0, none⟩ = some (.int .i64 h) ∧ w1.cell? ⟨w.heap.size + 1, 1, none⟩ = some (.int .i64 uh)) ∧ (w1.cell? ⟨w.heap.size + 1 + 1, 0, none⟩ = some (.int .i64 p) ∧ w1.cell? ⟨w.heap.size + 1 + 1, 1, none⟩ = some (.int .i64 u)) ∧ (w1.cell? ⟨w.heap.size + 1 + 1 + 1, 0, none⟩ = some (.int .i64 q) ∧ w1.cell? ⟨w.heap.size + 1 + 1 + 1, 1, none⟩ = some (.int .i64 v)) := by
  refine ⟨?_, ⟨?_, ?_⟩, ⟨?_, ?_⟩, ?_, ?_⟩
  all_goals exact (hb.cell (by first | (simp; done) | (simp; omega))).trans (by go_simp)

set_option maxRecDepth 100000 in
set_option maxHeartbeats 4000000 in
theorem open_bad (V : VeiledOk) (a : Option Addr) (c : Nat) (S : List Nd) (h uh p u q v e1 f1 : Int) (w : World) (hS : NdsAt w a S) (hbad : (e1 == 0) = false ∨ (e1 = 0 ∧ (f1 == 0) = false))
    (D : ∀ W, NdsAt W a S → Calls Try.prog 26 #[.agg #[.slice a S.length c], .agg #[.int .i64 p, .int .i64 u], .agg #[.int .i64 q, .int .i64 v]] W fun e w' => ∃ b : Bool, e = .returned (.tuple #[.bool b, .int .i64 e1]) ∧ Below W.heap.size W w')
    (DA : ∀ W, NdsAt W a S → Calls Try.prog 25 #[.agg #[.slice a S.length c], .agg #[.int .i64 h, .int .i64 uh], .bool false] W fun e w' => ∃ (ga : Option Addr) (gn gc : Nat) (r0 r1 : Int), e = .returned (.tuple #[.agg #[.slice ga gn gc], .agg #[.int .i64 r0, .int .i64 r1], .int .i64 f1]) ∧ Below W.heap.size W w') :
    Calls Try.prog 8 #[.agg #[.slice a S.length c], .agg #[.int .i64 h, .int .i64 uh], .agg #[.int .i64 p, .int .i64 u], .agg #[.int .i64 q, .int .i64 v]] w fun e w' => e = .returned (.bool true) ∧ Below w.heap.size w w' := by
  have HD : Hid _ := D
  have HA : Hid _ := DA
  have HS : Hid (NdsAt w a S) := hS
  have HV : Hid VeiledOk := V
  clear hS D V DA
  generalize S.length = n at *
  rcases hbad with hz | ⟨rfl, hz⟩
  all_goals
    go_enter Try.func8, Try.ntmps8
    go_wp2_with fail
    refine Calls.mono (HD.out _ (HS.out.below (four_below _ _ _ _ _))) ?_
    rintro e w1 ⟨b, rfl, hb1⟩
    simp only [World.size_alloc] at hb1
    obtain ⟨l0, ⟨l1, l2⟩, ⟨l3, l4⟩, l5, l6⟩ := open_low hb1
    have HB1 : Hid (Below w.heap.size w w1) := (four_below _ _ _ _ _).trans (hb1.mono (by omega))
    clear hb1
    go_wp2_with fail
    refine Calls.mono (HA.out _ (HS.out.below HB1.out)) ?_
    rintro e w2 ⟨ga, gn, gc, r0, r1, rfl, hb2⟩
    have HB2 : Hid (Below w.heap.size w w2) := HB1.out.trans (hb2.mono HB1.out.size)
    have X2 : Hid (∀ o1 o2, Below w.heap.size w ((w2.alloc o1).alloc o2)) := fun o1 o2 => (HB2.out.alloc HB2.out.size _).alloc (by simp; have := HB2.out.size; omega) _
    clear hb2
    go_wp2_with fail
    refine Calls.mono (HV.out _) ?_
    rintro e w3 ⟨rfl, hb3⟩
    have HB3 : Hid (Below w.heap.size w w3) := (X2.out _ _).trans (hb3.mono (X2.out _ _).size)
    clear hb3
    go_wp2_with fail
    refine Calls.mono (HV.out _) ?_
    rintro e w4 ⟨rfl, hb4⟩
    have HB4 : Hid (Below w.heap.size w w4) := HB3.out.trans (hb4.mono HB3.out.size)
    clear hb4
    go_wp2
    go_ret
    exact ⟨rfl, HB4.out⟩

set_option maxRecDepth 100000 in
set_option maxHeartbeats 4000000 in
theorem open_ok (V : VeiledOk) (a : Option Addr) (c : Nat) (S : List Nd) (k p q f : Nat) (uh u v : Int) (w : World) (wf : WF S) (hS : NdsAt w a S) (hk : k < S.length) (hku : (nd S k).u = true ∧ (nd S k).n = uh) (hp : p < S.length) (hpu : (nd S p).u = true ∧ (nd S p).n = u) (hq : q < S.length) (hqu : (nd S q).u = true ∧ (nd S q).n = v)
    (hH : hostB S k = false) (hf : f < S.length) (hfr : freeB (nd S f) = true) (hall : ∀ i, i < f → freeB (nd S i) = false) :
    Calls Try.prog 8 #[.agg #[.slice a S.length c], .agg #[.int .i64 (k : Int), .int .i64 uh], .agg #[.int .i64 (p : Int), .int .i64 u], .agg #[.int .i64 (q : Int), .int .i64 v]] w fun e w' => e = .returned (.bool true) ∧ Below w.heap.size w w' := by
  have fk : findE S k uh = 0 := find_zero wf (holds_used hk hku.1 hku.2 wf)
  have fp : findE S p u = 0 := find_zero wf (holds_used hp hpu.1 hpu.2 wf)
  have fq : findE S q v = 0 := find_zero wf (holds_used hq hqu.1 hqu.2 wf)
  have hfu := (free_parts hfr).1
  obtain ⟨S2, hS2⟩ : ∃ S2, S.set f (rootNd (nd S f) k false) = S2 := ⟨_, rfl⟩
  have hl2 : S2.length = S.length := by rw [← hS2]; simp
  have wf2 : WF S2 := by rw [← hS2]; exact wf.attach false hf hfr hk hku.1 hH
  have keep : ∀ x, x < S.length → (nd S x).u = true → nd S2 x = nd S x := fun x hx hxu => by
    rw [← hS2, nd_set S f x _ hf, if_neg (fun e => by rw [e, hfu] at hxu; cases hxu)]
  have nf2 : (nd S2 f).u = true ∧ (nd S2 f).n = (nd S f).n + 1 := by
    rw [← hS2, nd_set S f f _ hf, if_pos rfl]
    exact ⟨rfl, rfl⟩
  have find2 : ∀ x z, x < S.length → (nd S x).u = true ∧ (nd S x).n = z → findE S2 x z = 0 := fun x z hx hxu => find_zero wf2 (holds_used (by rw [hl2]; exact hx) (by rw [keep x hx hxu.1]; exact hxu.1) (by rw [keep x hx hxu.1]; exact hxu.2) wf2)
  have e1 : seenF S2 p q = seenF S p q := by rw [← hS2]; exact (attach_roots wf hf hfr hp hpu.1 hq hqu.1 false).2
  have e2 : seenF S2 p f = seenF S2 p k := by rw [← hS2]; exact attach_open wf hf hfr hk hku.1 hH hp hpu.1
  have DS : Hid (∀ W, NdsAt W a S → Calls _ _ _ _ _) := fun W hW => seen_ok a c S p q u v W wf hW hp hq fp fq
  have da := fun W hW => attach_ok a c S k f uh false W wf hW hk fk hH hf hfr hall
  rw [hS2] at da
  have DA : Hid _ := da
  have D1 : Hid (∀ g W, NdsAt W (some ⟨g, 0, none⟩) S2 → Calls Try.prog 26 #[.agg #[.slice (some ⟨g, 0, none⟩) S.length S.length], .agg #[.int .i64 (p : Int), .int .i64 u], .agg #[.int .i64 (q : Int), .int .i64 v]] W fun e w' => e = .returned (.tuple #[.bool (seenF S p q), .int .i64 0]) ∧ Below W.heap.size W w') := fun g W hW => by
    have h := seen_ok (some ⟨g, 0, none⟩) S.length S2 p q u v W wf2 hW (by rw [hl2]; exact hp) (by rw [hl2]; exact hq) (find2 p u hp hpu) (find2 q v hq hqu)
    rw [e1, hl2] at h
    exact h
  have D2 : Hid (∀ g W, NdsAt W (some ⟨g, 0, none⟩) S2 → Calls Try.prog 26 #[.agg #[.slice (some ⟨g, 0, none⟩) S.length S.length], .agg #[.int .i64 (p : Int), .int .i64 u], .agg #[.int .i64 (f : Int), .int .i64 ((nd S f).n + 1)]] W fun e w' => e = .returned (.tuple #[.bool (seenF S2 p k), .int .i64 0]) ∧ Below W.heap.size W w') := fun g W hW => by
    have h := seen_ok (some ⟨g, 0, none⟩) S.length S2 p f u ((nd S f).n + 1) W wf2 hW (by rw [hl2]; exact hp) (by rw [hl2]; exact hf) (find2 p u hp hpu) (find_zero wf2 (holds_used (by rw [hl2]; exact hf) nf2.1 nf2.2 wf2))
    rw [e2, hl2] at h
    exact h
  have D3 : Hid (∀ g W, NdsAt W (some ⟨g, 0, none⟩) S2 → Calls Try.prog 26 #[.agg #[.slice (some ⟨g, 0, none⟩) S.length S.length], .agg #[.int .i64 (p : Int), .int .i64 u], .agg #[.int .i64 (k : Int), .int .i64 uh]] W fun e w' => e = .returned (.tuple #[.bool (seenF S2 p k), .int .i64 0]) ∧ Below W.heap.size W w') := fun g W hW => by
    have h := seen_ok (some ⟨g, 0, none⟩) S.length S2 p k u uh W wf2 hW (by rw [hl2]; exact hp) (by rw [hl2]; exact hk) (find2 p u hp hpu) (find2 k uh hk hku)
    rw [hl2] at h
    exact h
  have HS : Hid (NdsAt w a S) := hS
  have HV : Hid VeiledOk := V
  have ON : Hid (∀ W g, OwnR W g S2 → NdsAt W (some ⟨g, 0, none⟩) S2) := fun W g h => h.nds
  clear hS wf wf2 hku hpu hqu fk fp fq hfu hS2 hl2 keep nf2 find2 e1 e2 da V hH hfr hall
  generalize seenF S p q = b1 at *
  generalize seenF S2 p k = b2 at *
  obtain ⟨nf, hnf⟩ : ∃ x, (nd S f).n + 1 = x := ⟨_, rfl⟩
  rw [hnf] at DA D2
  clear hnf
  generalize S.length = n at *
  go_enter Try.func8, Try.ntmps8
  go_wp2_with fail
  refine Calls.mono (DS.out _ (HS.out.below (four_below _ _ _ _ _))) ?_
  rintro e w1 ⟨rfl, hb1⟩
  simp only [World.size_alloc] at hb1
  have H1 : Hid (Below (w.heap.size + 1 + 1 + 1 + 1) ((((w.alloc (.cells #[.slice a n c] 24)).alloc (.cells #[.int .i64 (k : Int), .int .i64 uh] 26)).alloc (.cells #[.int .i64 (p : Int), .int .i64 u] 26)).alloc (.cells #[.int .i64 (q : Int), .int .i64 v] 26)) w1) := hb1
  obtain ⟨l0, ⟨l1, l2⟩, ⟨l3, l4⟩, l5, l6⟩ := open_low hb1
  have HB1 : Hid (Below w.heap.size w w1) := (four_below _ _ _ _ _).trans (hb1.mono (by omega))
  clear hb1
  go_wp2_with fail
  refine Calls.mono (DA.out _ (HS.out.below HB1.out)) ?_
  rintro e w2 ⟨g, rfl, hb2, hg2, hO2⟩
  have H2 : Hid (Below (w.heap.size + 1 + 1 + 1 + 1) ((((w.alloc (.cells #[.slice a n c] 24)).alloc (.cells #[.int .i64 (k : Int), .int .i64 uh] 26)).alloc (.cells #[.int .i64 (p : Int), .int .i64 u] 26)).alloc (.cells #[.int .i64 (q : Int), .int .i64 v] 26)) w2) := H1.out.trans (hb2.mono (by have := H1.out.size; simp at this; omega))
  have HN2 : Hid (NdsAt w2 (some ⟨g, 0, none⟩) S2) := ON.out _ _ hO2
  clear hb2 hO2 l0 l1 l2 l3 l4 l5 l6
  go_wp2_with fail
  refine Calls.mono (HV.out _) ?_
  rintro e w3 ⟨rfl, hb3⟩
  simp only [World.size_alloc] at hb3
  have X2 : Hid (Below w2.heap.size w2 ((w2.alloc (.cells #[.slice (some ⟨g, 0, none⟩) n n] 24)).alloc (.cells #[.int .i64 (f : Int), .int .i64 nf] 26))) := two_below _ _ _
  have hs3 := hb3.size
  simp only [World.size_alloc] at hs3
  have a0 : w3.cell? ⟨w2.heap.size, 0, none⟩ = some (.slice (some ⟨g, 0, none⟩) n n) := (hb3.cell (by simp; omega)).trans (by go_simp)
  have a1 : w3.cell? ⟨w2.heap.size + 1, 0, none⟩ = some (.int .i64 (f : Int)) := (hb3.cell (by simp)).trans (by go_simp)
  have a2 : w3.cell? ⟨w2.heap.size + 1, 1, none⟩ = some (.int .i64 nf) := (hb3.cell (by simp)).trans (by go_simp)
  have hb23 : Below w2.heap.size w2 w3 := X2.out.trans (hb3.mono (by omega))
  have H3 : Hid (Below (w.heap.size + 1 + 1 + 1 + 1) ((((w.alloc (.cells #[.slice a n c] 24)).alloc (.cells #[.int .i64 (k : Int), .int .i64 uh] 26)).alloc (.cells #[.int .i64 (p : Int), .int .i64 u] 26)).alloc (.cells #[.int .i64 (q : Int), .int .i64 v] 26)) w3) := H2.out.trans (hb23.mono (by have := H2.out.size; simp at this; omega))
  have HN3 : Hid (NdsAt w3 (some ⟨g, 0, none⟩) S2) := HN2.out.below hb23
  clear hb3 hb23 X2
  obtain ⟨l0, ⟨l1, l2⟩, ⟨l3, l4⟩, l5, l6⟩ := open_low H3.out
  have q1 : w2.heap.size < w3.heap.size := by omega
  have q2 : w2.heap.size + 1 < w3.heap.size := by omega
  go_wp2_with fail
  refine Calls.mono (D1.out g _ HN3.out) ?_
  rintro e w4 ⟨rfl, hb4⟩
  have H4 : Hid (Below (w.heap.size + 1 + 1 + 1 + 1) ((((w.alloc (.cells #[.slice a n c] 24)).alloc (.cells #[.int .i64 (k : Int), .int .i64 uh] 26)).alloc (.cells #[.int .i64 (p : Int), .int .i64 u] 26)).alloc (.cells #[.int .i64 (q : Int), .int .i64 v] 26)) w4) := H3.out.trans (hb4.mono (by have := H3.out.size; simp at this; omega))
  have HN4 : Hid (NdsAt w4 (some ⟨g, 0, none⟩) S2) := HN3.out.below hb4
  have b0' := (hb4.cell (p := ⟨w2.heap.size, 0, none⟩) q1).trans a0
  have b1' := (hb4.cell (p := ⟨w2.heap.size + 1, 0, none⟩) q2).trans a1
  have b2' := (hb4.cell (p := ⟨w2.heap.size + 1, 1, none⟩) q2).trans a2
  have hs4 := hb4.size
  have q3 : w2.heap.size < w4.heap.size := by omega
  clear hb4 a0 a1 a2 l0 l1 l2 l3 l4 l5 l6
  obtain ⟨l0, ⟨l1, l2⟩, ⟨l3, l4⟩, l5, l6⟩ := open_low H4.out
  go_wp2_with fail
  refine Calls.mono (D2.out g _ HN4.out) ?_
  rintro e w5 ⟨rfl, hb5⟩
  have H5 : Hid (Below (w.heap.size + 1 + 1 + 1 + 1) ((((w.alloc (.cells #[.slice a n c] 24)).alloc (.cells #[.int .i64 (k : Int), .int .i64 uh] 26)).alloc (.cells #[.int .i64 (p : Int), .int .i64 u] 26)).alloc (.cells #[.int .i64 (q : Int), .int .i64 v] 26)) w5) := H4.out.trans (hb5.mono (by have := H4.out.size; simp at this; omega))
  have HN5 : Hid (NdsAt w5 (some ⟨g, 0, none⟩) S2) := HN4.out.below hb5
  have c0' := (hb5.cell (p := ⟨w2.heap.size, 0, none⟩) q3).trans b0'
  clear hb5 b0' b1' b2' l0 l1 l2 l3 l4 l5 l6
  obtain ⟨l0, ⟨l1, l2⟩, ⟨l3, l4⟩, l5, l6⟩ := open_low H5.out
  go_wp2_with fail
  refine Calls.mono (D3.out g _ HN5.out) ?_
  rintro e w6 ⟨rfl, hb6⟩
  have HB6 : Hid (Below w.heap.size w w6) := (four_below _ _ _ _ _).trans ((H5.out.trans (hb6.mono (by have := H5.out.size; simp at this; omega))).mono (by omega))
  clear hb6
  go_wp2
  go_ret
  exact ⟨by simp, HB6.out⟩
end Go.Proofs.Ytjlapfgghljidab
