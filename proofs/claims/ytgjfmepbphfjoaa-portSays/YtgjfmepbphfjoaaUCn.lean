/-
  The reference's Copied: what it does to bring a cell.
-/
import Derived.Test.YtgjfmepbphfjoaaUCm
import Derived.Test.YtgjfmepbphfjoaaUCg
import Derived.Test.YtgjfmepbphfjoaaUCp
import Derived.Test.YtgjfmepbphfjoaaUNx
import Derived.Deep.DeepCutAuto
namespace Go.Proofs.Ytgjfmepbphfjoaa
open Go.RowKit Go.ChangeShapes Go.WideShapes

structure PlAt (w : World) (B bf bo : Nat) (vf vo : Value) (T : List Int) (L : List Cl) (K : Nat → Value) : Prop where
  bfE : w.heap[bf]? = some (.cells #[vf] 40 (0, 0))
  boE : w.heap[bo]? = some (.cells #[vo] 25 (0, 0))
  ownF : w.ownsRow B 3 1 vf T.length (T.map (Value.int .i64))
  ownO : OwnC B L K vo w
  len : L.length = T.length

def PlOff (bf bo : Nat) (vf vo : Value) : Nat → Prop := fun j => j = bf ∨ j = bo ∨ vf.ownBlock = some j ∨ vo.ownBlock = some j

theorem box_rowC {w : World} {b t t' B n size : Nat} {u v : Value} {xs : List Value} (h : w.heap[b]? = some (.cells #[u] t (0, 0))) (h2 : w.ownsRow B t' size v n xs) (hne : t ≠ t') : v.ownBlock ≠ some b := fun e => by
  rcases h2.2 with ⟨rfl, _⟩ | ⟨g, cap, cur, rfl, _, h3, _⟩
  · cases e
  · cases e
    rw [h] at h3
    cases h3
    exact hne rfl

theorem PlAt.kept {w w' : World} {B bf bo : Nat} {vf vo : Value} {T : List Int} {L : List Cl} {K : Nat → Value} (h : PlAt w B bf bo vf vo T L K) (e : ∀ j, j < w.heap.size → (PlOff bf bo vf vo j ∨ ∃ i, i < L.length ∧ (K i).ownBlock = some j) → w'.heap[j]? = w.heap[j]?) : PlAt w' B bf bo vf vo T L K :=
  ⟨(e bf (box_lt h.bfE) (Or.inl (Or.inl rfl))).trans h.bfE, (e bo (box_lt h.boE) (Or.inl (Or.inr (Or.inl rfl)))).trans h.boE, owns_block h.ownF (fun j hj => e j (h.ownF.lt j hj).2 (Or.inl (Or.inr (Or.inr (Or.inl hj))))),
    h.ownO.kept (fun j _ hj hx => e j hj (hx.elim (fun h1 => Or.inl (Or.inr (Or.inr (Or.inr h1)))) Or.inr)), h.len⟩
theorem PlAt.below {w w' : World} {B bf bo : Nat} {vf vo : Value} {T : List Int} {L : List Cl} {K : Nat → Value} (h : PlAt w B bf bo vf vo T L K) (hb : Below w.heap.size w w') : PlAt w' B bf bo vf vo T L K := h.kept (fun j hj _ => hb.block j hj)

set_option maxRecDepth 100000 in
set_option maxHeartbeats 4000000 in
theorem place_any (B B0 bf bo bg gb go n c : Nat) (vf vo : Value) (T : List Int) (L : List Cl) (KK : Nat → Value) (k : Nat) (nk : Int) (w : World) (h : PlAt w B bf bo vf vo T L KK) (hT : T.length ≤ 1000) (hB : B ≤ w.heap.size) (hB0 : B0 ≤ bf ∧ B0 ≤ bo ∧ B0 ≤ B) (hk : k < n)
    (KF : ∀ i, i < L.length → ∀ b, (KK i).ownBlock = some b → vf.ownBlock ≠ some b)
    (hg : ∀ W, Below B0 w W → W.cell? ⟨bg, 0, none⟩ = some (.slice (some ⟨gb, go, none⟩) n c) ∧ W.cell? ⟨gb, go + k * 2, none⟩ = some (.int .i64 nk)) :
    Calls Try.prog 55 #[.int .i64 (k : Int), .pointer (some ⟨bf, 0, none⟩), .pointer (some ⟨bo, 0, none⟩), .pointer (some ⟨bg, 0, none⟩)] w fun e w' =>
      ∃ vf' vo' K', e = .returned (.int .i64 (at1 (bring T k) k)) ∧ PlAt w' B bf bo vf' vo' (bring T k) (if (k : Int) ∈ T then L else L ++ [⟨nk, []⟩]) K' ∧ (∀ i b, (K' i).ownBlock = some b → i < (if (k : Int) ∈ T then L else L ++ [⟨nk, []⟩]).length → i < L.length ∧ (KK i).ownBlock = some b) ∧ (∀ i, i < L.length → K' i = KK i) ∧ Later w vf vf' ∧ OffC (PlOff bf bo vf vo) w w' := by
  obtain ⟨i0, hi0, hz0, hz1, hz2⟩ := info_parts infoIntC
  obtain ⟨j0, hj0, hy0, hy1, hy2⟩ := info_parts infoCell
  have c1 := box_cell h.bfE
  obtain ⟨fa, fc, hvf, hfi⟩ := ints_own h.ownF
  have IX : Hid (Calls _ _ _ _ _) := index_anyC fa fc T (k : Int) w (by omega) hfi
  by_cases hm : (k : Int) ∈ T
  · have e1 : idxC T (k : Int) = at1 T k := by unfold idxC; rw [if_pos hm]; rfl
    have e2 : bring T k = T := by unfold bring; rw [if_pos hm]
    have e3 : 0 ≤ at1 T (k : Int) := by unfold at1; omega
    rw [e1] at IX
    rw [e2, if_pos hm]
    have FIN : Hid (PlAt w B bf bo vf vo T L KK) := h
    clear h hfi e1 e2 hg KF
    subst hvf
    generalize at1 T (k : Int) = A at *
    have e4 : decide (A < 0) = false := decide_eq_false (by omega)
    have e5 : ¬ A < 0 := by omega
    obtain ⟨l, hl⟩ : ∃ z, T.length = z := ⟨_, rfl⟩
    rw [hl] at IX c1 FIN ⊢
    clear hl
    go_enter Try.func55, Try.ntmps55
    go_wp2_with fail
    refine Calls.mono IX.out ?_
    rintro e w1 ⟨rfl, hw⟩
    subst hw
    go_wp2_with fail
    go_ret
    exact ⟨_, vo, KK, rfl, FIN.out, fun _ _ h hl => ⟨hl, h⟩, fun _ _ => rfl, Or.inl rfl, OffC.refl _ _⟩
  · have e1 : idxC T (k : Int) = -1 := by unfold idxC; rw [if_neg hm]
    have e2 : bring T k = T ++ [(k : Int)] := by unfold bring; rw [if_neg hm]
    rw [e1] at IX
    rw [e2, if_neg hm, at1_new hm]
    obtain ⟨oa, oc, hvo, _⟩ := h.ownO.cls
    have nfo := box_rowC h.bfE h.ownO.1 (by decide)
    have nff := box_rowC h.bfE h.ownF (by decide)
    have nof := box_rowC h.boE h.ownF (by decide)
    have noo := box_rowC h.boE h.ownO.1 (by decide)
    have nfo2 : bf ≠ bo := fun e => by have h1 := h.bfE; rw [e, h.boE] at h1; cases h1
    have apart := owns_apart h.ownF h.ownO.1 (by decide)
    have KB : ∀ i, i < L.length → ∀ b, (KK i).ownBlock = some b → b ≠ bf ∧ b ≠ bo := fun i hi b hb => ⟨fun e => box_rowC h.bfE (h.ownO.2 i hi) (by decide) (by rw [← e]; exact hb), fun e => box_rowC h.boE (h.ownO.2 i hi) (by decide) (by rw [← e]; exact hb)⟩
    have H0 : Hid (PlAt w B bf bo vf vo T L KK) := h
    have NE : Hid (vo.ownBlock ≠ some bf ∧ vf.ownBlock ≠ some bf ∧ vf.ownBlock ≠ some bo ∧ vo.ownBlock ≠ some bo ∧ bf ≠ bo) := ⟨nfo, nff, nof, noo, nfo2⟩
    have AP : Hid (∀ k, vf.ownBlock = some k → vo.ownBlock ≠ some k) := apart
    have KB2 : Hid (∀ i, i < L.length → ∀ b, (KK i).ownBlock = some b → b ≠ bf ∧ b ≠ bo) := KB
    have KF2 : Hid (∀ i, i < L.length → ∀ b, (KK i).ownBlock = some b → vf.ownBlock ≠ some b) := KF
    have HG : Hid (∀ W, Below B0 w W → W.cell? ⟨bg, 0, none⟩ = some (.slice (some ⟨gb, go, none⟩) n c) ∧ W.cell? ⟨gb, go + k * 2, none⟩ = some (.int .i64 nk)) := hg
    have hbf := box_lt h.bfE
    have hbo := box_lt h.boE
    have LEN : Hid (L.length = T.length) := h.len
    have OWF : Hid (∀ o1, (w.alloc o1).ownsRow B 3 1 vf T.length (T.map (Value.int .i64))) := fun o1 => h.ownF.alloc _
    have hk2 : (k : Int) < (n : Int) := by omega
    clear h hfi e1 e2 hg KF nfo nff nof noo nfo2 apart KB hm
    subst hvf
    subst hvo
    obtain ⟨l, hl⟩ : ∃ z, T.length = z := ⟨_, rfl⟩
    have HL : Hid (T.length = l) := hl
    obtain ⟨m, hm⟩ : ∃ z, L.length = z := ⟨_, rfl⟩
    have HM : Hid (L.length = m) := hm
    rw [hl] at IX c1 H0 NE AP KF2 OWF LEN hT ⊢
    rw [hm] at H0 NE AP LEN ⊢
    have hm1 : m ≤ 1000 := by have := LEN.out; omega
    clear hl hm
    go_enter Try.func55, Try.ntmps55
    go_wp2_with fail
    refine Calls.mono IX.out ?_
    rintro e w1 ⟨rfl, hw⟩
    have hw2 := hw.symm
    clear hw
    subst hw2
    go_wp2_with (at_builtin; refine wpList_append_own_at _ rfl _ _ 40 rfl B 3 i0 (.int .i64 0) 1 8 Try.underlying40 hi0 hz0 hz1 hz2 rfl (by decide) (.slice fa l fc) l (T.map (Value.int .i64)) rfl (OWF.out _) ⟨w.heap.size, 0, none⟩ 1 1 [.int .i64 (k : Int)] rfl rfl (cell_one_new _ _ _) ?c2 ?c3 ?c4 ?c5 ?_)
    case c2 => intro u hu; simp at hu; subst hu; rfl
    case c3 => unfold maxLen; omega
    case c4 => omega
    case c5 => simp; omega
    intro v2 w2 own2 grow2 _ hat
    have e6 : (T ++ [(k : Int)]).map (Value.int .i64) = T.map (Value.int .i64) ++ [.int .i64 (k : Int)] := by simp
    rw [← e6] at own2
    obtain ⟨na, nc, hv2, _⟩ := ints_own own2
    have e5 : (T ++ [(k : Int)]).length = l + 1 := by simp [HL.out]
    rw [e5] at hv2
    subst hv2
    have s2 := grow2.size
    simp only [World.size_alloc] at s2
    have far2 : ∀ j, j < w.heap.size → (Value.slice fa l fc).ownBlock ≠ some j → w2.heap[j]? = w.heap[j]? := fun j h1 h2 => (grow2.block j (by simp; omega) (fun e => h2 e.symm)).trans (Below.heap_alloc _ _ _ h1)
    have b2 := (far2 bf hbf NE.out.2.1).trans H0.out.bfE
    have y3 := box_cell b2
    have y4 := box_frozen (o := 0) b2
    have z2 : bf < w2.heap.size := by omega
    obtain ⟨W3, hW3⟩ : ∃ W3, w2.setCell ⟨bf, 0, none⟩ (.slice na (l + 1) nc) = W3 := ⟨_, rfl⟩
    have far3 : ∀ j, j < w.heap.size → (Value.slice fa l fc).ownBlock ≠ some j → j ≠ bf → W3.heap[j]? = w.heap[j]? := fun j h1 h2 h3 => by
      rw [← hW3]
      exact (Below.heap_setCell _ _ _ _ h3).trans (far2 j h1 h2)
    have BF3 : Hid (W3.heap[bf]? = some (.cells #[.slice na (l + 1) nc] 40 (0, 0))) := by rw [← hW3]; exact box_set b2
    have BO3 : Hid (W3.heap[bo]? = some (.cells #[.slice oa m oc] 25 (0, 0))) := (far3 bo hbo NE.out.2.2.1 (fun e => NE.out.2.2.2.2 e.symm)).trans H0.out.boE
    have z3 : bf < W3.heap.size ∧ B ≤ W3.heap.size ∧ w.heap.size ≤ W3.heap.size := by rw [← hW3]; simp [World.setCell]; omega
    have z5 := z3.1
    have Z3 : Hid (bf < W3.heap.size ∧ B ≤ W3.heap.size ∧ w.heap.size ≤ W3.heap.size) := z3
    clear z3
    have ownF3 : W3.ownsRow B 3 1 (.slice na (l + 1) nc) (l + 1) ((T ++ [(k : Int)]).map (Value.int .i64)) := by
      rw [← hW3]
      refine owns_block own2 (fun j hj => Below.heap_setCell _ _ _ _ ?_)
      intro e
      have e : j = bf := e
      subst e
      rcases hat with h1 | h1
      · rw [h1] at hj
        exact NE.out.2.1 hj
      · rw [h1] at hj
        have := Option.some.inj hj
        first | omega | (simp only [World.size_alloc] at this; omega)
    have OF3 : Hid (W3.ownsRow B 3 1 (.slice na (l + 1) nc) (l + 1) ((T ++ [(k : Int)]).map (Value.int .i64))) := ownF3
    have OO3 : Hid (OwnC B L KK (.slice oa m oc) W3) := H0.out.ownO.kept (fun j _ hj hx => far3 j hj (fun e => by
      rcases hx with h1 | ⟨i, hi, h1⟩
      · exact AP.out j e h1
      · exact KF2.out i hi j h1 e) (fun e => by
      rcases hx with h1 | ⟨i, hi, h1⟩
      · rw [e] at h1; exact NE.out.1 h1
      · exact (KB2.out i hi j h1).1 e))
    have LAT : Hid (Later w (.slice fa l fc) (.slice na (l + 1) nc)) := by
      rcases hat with h1 | h1
      · exact Or.inl h1
      · exact Or.inr ⟨_, h1, by first | omega | (simp; omega)⟩
    have OFF3 : Hid (OffC (PlOff bf bo (.slice fa l fc) (.slice oa m oc)) w W3) := by
      have g2 : OffC (PlOff bf bo (.slice fa l fc) (.slice oa m oc)) _ w2 := grown_off grow2 (fun j e => Or.inr (Or.inr (Or.inl e)))
      have g3 := OffC.trans (X := PlOff bf bo (.slice fa l fc) (.slice oa m oc)) (Y := PlOff bf bo (.slice fa l fc) (.slice oa m oc)) (OffC.of_below (one_belowS w _)) g2 (fun _ _ h => h)
      rw [← hW3]
      exact OffC.trans (Y := PlOff bf bo (.slice fa l fc) (.slice oa m oc)) g3 (setCell_off _ _ _ _ (Or.inl rfl)) (fun _ _ h => h)
    have BEL : Below B0 w W3 := OFF3.out.below (by omega) (fun j hj => by
      rcases hj with e | e | e | e
      · omega
      · omega
      · have := (H0.out.ownF.lt j e).1; omega
      · have := (H0.out.ownO.1.lt j e).1; omega)
    obtain ⟨d0, d1⟩ := HG.out W3 BEL
    have o3 := box_cell BO3.out
    have x0 := World.block_lt_of_cell? _ _ d0
    have x1 := World.block_lt_of_cell? _ _ d1
    have x2 := World.block_lt_of_cell? _ _ o3
    have F3 := box_frozen (o := 0) BO3.out
    have OWO : Hid (∀ o1, (W3.alloc o1).ownsRow B 62 2 (.slice oa m oc) m (ccells L KK)) := fun o1 => (by have h := OO3.out.1; rw [HM.out] at h; exact h.alloc _)
    clear own2 grow2 hat far2 far3 ownF3 BEL b2 e5 e6
    go_upto_region 5 with fail
    try rw [hW3]
    clear hW3 y3 y4
    go_wp2_with fail
    refine wp_region_noPanic ?_
    refine wp_region_X (S := fun w'' => w''.cell? ⟨bo, 0, none⟩ = some (.slice oa m oc) ∧ w''.cell? ⟨bg, 0, none⟩ = some (.slice (some ⟨gb, go, none⟩) n c) ∧ w''.cell? ⟨gb, go + k * 2, none⟩ = some (.int .i64 nk)) 12 (by kernel_rfl) (by (try dsimp only); go_keep) (fun hHeld => ?_)
    refine wpAnyX_take (i := 0) (v := ?_) rfl (by kernel_rfl) (by kernel_rfl) (by kernel_rfl) (by kernel_rfl) (fun _ _ _ h => h) (Or.inl ⟨by rfl, ?_⟩) (by assumption) ?_
    rotate_left
    · intro w hSw; (try dsimp only at hSw); first | (go_simp; done) | (go_simp; with_reducible rfl)
    simp [Act.put]
    refine wpAnyX_take (i := 1) (v := ?_) rfl (by kernel_rfl) (by kernel_rfl) (by kernel_rfl) (by kernel_rfl) (fun _ _ _ h => h) (Or.inl ⟨by rfl, ?_⟩) (by assumption) ?_
    rotate_left
    · intro w hSw; (try dsimp only at hSw); first | (go_simp; done) | (go_simp; with_reducible rfl)
    simp [Act.put]
    refine wpAnyX_take (i := 2) (v := ?_) rfl (by kernel_rfl) (by kernel_rfl) (by kernel_rfl) (by kernel_rfl) (fun _ _ _ h => h) (Or.inl ⟨by rfl, ?_⟩) (by assumption) ?_
    rotate_left
    · intro w hSw; (try dsimp only at hSw); first | (go_simp; done) | (go_simp; with_reducible rfl)
    simp [Act.put]
    refine wpAnyX_take (i := 3) (v := ?_) rfl (by kernel_rfl) (by kernel_rfl) (by kernel_rfl) (by kernel_rfl) (fun _ _ _ h => h) (Or.inl ⟨by rfl, ?_⟩) (by assumption) ?_
    rotate_left
    · intro w hSw; (try dsimp only at hSw); first | (go_simp; done) | (go_simp; with_reducible rfl)
    simp [Act.put]
    refine wpAnyX_take (i := 4) (v := ?_) rfl (by kernel_rfl) (by kernel_rfl) (by kernel_rfl) (by kernel_rfl) (fun _ _ _ h => h) (Or.inl ⟨by rfl, ?_⟩) (by assumption) ?_
    rotate_left
    · intro w hSw; (try dsimp only at hSw); first | (go_simp; done) | (go_simp; with_reducible rfl)
    simp [Act.put]
    refine wpAnyX_take (i := 5) (v := ?_) rfl (by kernel_rfl) (by kernel_rfl) (by kernel_rfl) (by kernel_rfl) (fun _ _ _ h => h) (Or.inl ⟨by rfl, ?_⟩) (by assumption) ?_
    rotate_left
    · intro w hSw; (try dsimp only at hSw); first | (go_simp; done) | (go_simp; with_reducible rfl)
    simp [Act.put]
    refine wpAnyX_take (i := 6) (v := ?_) rfl (by kernel_rfl) (by kernel_rfl) (by kernel_rfl) (by kernel_rfl) (fun _ _ _ h => h) (Or.inl ⟨by rfl, ?_⟩) (by assumption) ?_
    rotate_left
    · intro w hSw; (try dsimp only at hSw); first | (go_simp; done) | (go_simp; with_reducible rfl)
    simp [Act.put]
    refine wpAnyX_take (i := 7) (v := ?_) rfl (by kernel_rfl) (by kernel_rfl) (by kernel_rfl) (by kernel_rfl) (fun _ _ _ h => h) (Or.inl ⟨by rfl, ?_⟩) (by assumption) ?_
    rotate_left
    · intro w hSw; (try dsimp only at hSw); first | (go_simp; done) | (go_simp; with_reducible rfl)
    simp [Act.put]
    refine wpAnyX_take (i := 8) (v := ?_) rfl (by kernel_rfl) (by kernel_rfl) (by kernel_rfl) (by kernel_rfl) (fun _ _ _ h => h) (Or.inl ⟨by rfl, ?_⟩) (by assumption) ?_
    rotate_left
    · intro w hSw; (try dsimp only at hSw); first | (go_simp; done) | (go_simp; with_reducible rfl)
    simp [Act.put]
    refine wpAnyX_one (i := 9) (by kernel_rfl) rfl (fun K hK => ?_)
    go_simp
    refine hK.out _ _ ?_ (fun hHeld => ?_)
    · (try dsimp only)
      first | exact ⟨keepC o3 (one_belowS W3.drew _), keepC d0 (one_belowS W3.drew _), keepC d1 (one_belowS W3.drew _)⟩ | go_keep
    clear hK K
    try simp [Act.put]
    refine wpAnyX_one (i := 10) (by kernel_rfl) rfl (fun K hK => ?_)
    refine step_append_ownC rfl (.tmp 19) (.tmp 27) 23 rfl B 62 j0 (.agg #[.int .i64 0, .slice none 0 0]) 2 32 Try.underlying23 hj0 hy0 hy1 hy2 rfl (by decide) (.slice oa m oc) m (ccells L KK) rfl ?own ⟨W3.heap.size, 0, none⟩ 1 1 (ccell ⟨nk, []⟩ (.slice none 0 0)) rfl rfl (news2 (by go_simp) (by go_simp)) one2 (by unfold maxLen; omega) (by omega) (by have := Z3.out.2.1; simp; omega) ?_
    case own => exact (OWO.out _).drew
    intro v5 w5 own5 grow5'
    have grow5 : (W3.alloc (.cells #[.int .i64 nk, .slice none 0 0] 62)).grownBy w5 (Value.slice oa m oc).ownBlock := ⟨grow5'.os, grow5'.tape, grow5'.output, grow5'.size, grow5'.block⟩
    clear grow5'
    have hs5 := grow5.size
    simp only [World.size_alloc] at hs5
    have far5 : ∀ j, j < W3.heap.size → (Value.slice oa m oc).ownBlock ≠ some j → w5.heap[j]? = W3.heap[j]? := fun j h1 h2 => (grow5.block j (by simp only [World.size_alloc]; omega) (fun e => h2 e.symm)).trans (Below.heap_alloc _ _ _ h1)
    have Y5 := (far5 bo (by omega) NE.out.2.2.2.1).trans BO3.out
    have t0 := box_cell Y5
    have f5 := box_frozen (o := 0) Y5
    have t1 : w5.cell? ⟨bg, 0, none⟩ = some (.slice (some ⟨gb, go, none⟩) n c) ∧ w5.cell? ⟨gb, go + k * 2, none⟩ = some (.int .i64 nk) := HG.out w5 ((OFF3.out.trans (Y := PlOff bf bo (.slice fa l fc) (.slice oa m oc)) ((OffC.of_below (one_belowS W3 _)).trans (Y := PlOff bf bo (.slice fa l fc) (.slice oa m oc)) (grown_off grow5 (fun j e => Or.inr (Or.inr (Or.inr e)))) (fun _ _ h => h)) (fun _ _ h => h)).below (by omega) (fun j hj => by
      rcases hj with e | e | e | e
      · omega
      · omega
      · have := (H0.out.ownF.lt j e).1; omega
      · have := (H0.out.ownO.1.lt j e).1; omega))
    have OO5 : Hid (OwnC B (L ++ [⟨nk, []⟩]) (fun i => if i = L.length then .slice none 0 0 else KK i) v5 w5) := OO3.out.step (s := ⟨nk, []⟩) (World.ownsRow_nil _ _ _ _) grow5 (by rw [HM.out]; exact own5)
    have NB5 := box_rowC Y5 own5 (by decide)
    obtain ⟨g5, c5, hv5⟩ : ∃ g5 c5, v5 = .slice (some ⟨g5, 0, none⟩) (m + 1) c5 := by
      rcases own5.2 with ⟨_, h⟩ | ⟨g, cap, cur, h, _⟩
      · omega
      · exact ⟨g, cap, h⟩
    subst hv5
    have nof5 := box_rowC BO3.out OF3.out (by decide)
    have BF5 := (far5 bf (by omega) NE.out.1).trans BF3.out
    have OF5 : w5.ownsRow B 3 1 (.slice na (l + 1) nc) (l + 1) ((T ++ [(k : Int)]).map (Value.int .i64)) := owns_block OF3.out (fun j hj => far5 j (OF3.out.lt j hj).2 (owns_apart OF3.out OO3.out.1 (by decide) j hj))
    have FIN : Hid (PlAt (w5.setCell ⟨bo, 0, none⟩ (.slice (some ⟨g5, 0, none⟩) (m + 1) c5)) B bf bo (.slice na (l + 1) nc) (.slice (some ⟨g5, 0, none⟩) (m + 1) c5) (T ++ [(k : Int)]) (L ++ [⟨nk, []⟩]) (fun i => if i = L.length then .slice none 0 0 else KK i)) := by
      refine ⟨(Below.heap_setCell _ _ _ _ NE.out.2.2.2.2).trans BF5, box_set Y5, ?_, ?_, by rw [List.length_append, List.length_append, HM.out, HL.out, LEN.out]; rfl⟩
      · rw [List.length_append, HL.out]
        exact owns_block OF5 (fun j hj => Below.heap_setCell _ _ _ _ (fun e => by have e : j = bo := e; subst e; exact nof5 hj))
      · refine OO5.out.kept (fun j _ _ hx => Below.heap_setCell _ _ _ _ (fun e => ?_))
        have e : j = bo := e
        subst e
        rcases hx with h1 | ⟨i, hi, h1⟩
        · exact NB5 h1
        · exact box_rowC Y5 (OO5.out.2 i hi) (by decide) h1
    have KKS : Hid (∀ i b, ((fun i => if i = L.length then Value.slice none 0 0 else KK i) i).ownBlock = some b → i < (L ++ [(⟨nk, []⟩ : Cl)]).length → i < m ∧ (KK i).ownBlock = some b) := fun i b hb hl => by
      by_cases e : i = L.length
      · simp only [if_pos e] at hb; cases hb
      · simp only [if_neg e] at hb
        rw [List.length_append, List.length_singleton, HM.out] at hl
        rw [HM.out] at e
        exact ⟨by omega, hb⟩
    have KK2 : Hid (∀ i, i < m → (fun i => if i = L.length then Value.slice none 0 0 else KK i) i = KK i) := fun i hi => by
      have e : i ≠ L.length := by rw [HM.out]; omega
      simp only [if_neg e]
    have OFF6 : Hid (OffC (PlOff bf bo (.slice fa l fc) (.slice oa m oc)) w (w5.setCell ⟨bo, 0, none⟩ (.slice (some ⟨g5, 0, none⟩) (m + 1) c5))) := by
      refine OFF3.out.trans (Y := PlOff bf bo (.slice fa l fc) (.slice oa m oc)) ?_ (fun _ _ h => h)
      refine (OffC.of_below (one_belowS W3 (.cells #[.int .i64 nk, .slice none 0 0] 62))).trans (Y := PlOff bf bo (.slice fa l fc) (.slice oa m oc)) ?_ (fun _ _ h => h)
      exact (grown_off grow5 (X := PlOff bf bo (.slice fa l fc) (.slice oa m oc)) (fun j e => Or.inr (Or.inr (Or.inr e)))).trans (Y := PlOff bf bo (.slice fa l fc) (.slice oa m oc)) (setCell_off _ _ _ _ (Or.inr (Or.inl rfl))) (fun _ _ h => h)
    have q5 : bo < w5.heap.size := by omega
    clear own5 grow5 far5 Y5 NB5 nof5 BF5 OF5
    refine hK.out _ _ ?_ (fun hHeld => ?_)
    · (try dsimp only)
      first | exact ⟨t0, t1.1, t1.2⟩ | go_keep
    clear hK K
    try simp [Act.put]
    refine wpAnyX_take (i := 11) (v := ?_) rfl (by kernel_rfl) (by kernel_rfl) (by kernel_rfl) (by kernel_rfl) (fun _ _ _ h => h) (Or.inl ⟨by rfl, ?_⟩) (by assumption) ?_
    rotate_left
    · intro w hSw; (try dsimp only at hSw); first | (go_simp; done) | (go_simp; with_reducible rfl)
    simp [Act.put]
    refine wpAnyX_last (by kernel_rfl) rfl (fun K hK => ?_)
    go_simp
    refine hK.out _ _ ?_
    clear hK K
    try simp [Act.put]
    refine wpAnyX_done (by kernel_rfl) ?_ _
    refine NoPanic.normal ?_
    go_wp2_with fail
    go_ret
    refine ⟨rfl, _, _, _, FIN.out, ?_, KK2.out, LAT.out, OFF6.out⟩
    intro i b hb hl
    have hl2 : i < m + 1 := by rw [← HM.out]; exact hl
    exact KKS.out i b hb (by rw [List.length_append, List.length_singleton, HM.out]; exact hl2)
end Go.Proofs.Ytgjfmepbphfjoaa
