/-
  A cell copied, its kids brought: copyCell.
-/
import Derived.Test.YtgjfmepbphfjoaaUCc
namespace Go.Proofs.Ytgjfmepbphfjoaa
open Go.RowKit Go.ChangeShapes Go.WideShapes

theorem BrAt.kept {w w' : World} {B bm bt mb n : Nat} {v : Value} {T : List Int} (h : BrAt w B bm bt mb n v T) (e : ∀ j, j < w.heap.size → (j = bm ∨ BrOff bt mb v j) → w'.heap[j]? = w.heap[j]?) : BrAt w' B bm bt mb n v T :=
  ⟨(e bm (box_lt h.bmE) (Or.inl rfl)).trans h.bmE, (e bt (box_lt h.btE) (Or.inr (Or.inl rfl))).trans h.btE, h.mp.kept (e mb h.mp.lt (Or.inr (Or.inr (Or.inl rfl)))), owns_block h.own (fun j hj => e j (h.own.lt j hj).2 (Or.inr (Or.inr (Or.inr hj))))⟩
theorem BrAt.below {w w' : World} {B bm bt mb n : Nat} {v : Value} {T : List Int} (h : BrAt w B bm bt mb n v T) (hb : Below w.heap.size w w') : BrAt w' B bm bt mb n v T := h.kept (fun j hj _ => hb.block j hj)

theorem Later.trans {w w1 : World} {v v1 v2 : Value} (h : Later w v v1) (h2 : Later w1 v1 v2) (hs : w.heap.size ≤ w1.heap.size) : Later w v v2 := by
  rcases h2 with e | ⟨j, e, hj⟩
  · rcases h with e1 | ⟨j, e1, hj⟩
    · exact Or.inl (e.trans e1)
    · exact Or.inr ⟨j, e.trans e1, hj⟩
  · exact Or.inr ⟨j, e, by omega⟩
theorem Later.off {w : World} {v v1 : Value} {bt mb j : Nat} (h : Later w v v1) (hj : j < w.heap.size) (hX : BrOff bt mb v1 j) : BrOff bt mb v j := by
  rcases hX with e | e | e
  · exact Or.inl e
  · exact Or.inr (Or.inl e)
  · rcases h with h | ⟨i, e1, hi⟩
    · exact Or.inr (Or.inr (h.symm.trans e))
    · rw [e1] at e
      cases e
      omega

/-- A row lies below a mark, or three blocks behind it. -/
def Far3 (s : Nat) (v : Value) : Prop := ∀ j, v.ownBlock = some j → j < s ∨ s + 3 ≤ j
theorem Far3.later {s : Nat} {w : World} {v v1 : Value} (h : Far3 s v) (h2 : Later w v v1) (hs : s + 3 ≤ w.heap.size) : Far3 s v1 := fun j hj => by
  rcases h2 with e | ⟨i, e, hi⟩
  · exact h j (e.symm.trans hj)
  · rw [e] at hj
    cases hj
    exact Or.inr (by omega)

theorem brings_take {T ks : List Int} {j : Nat} (hj : j < ks.length) : brings T (ks.take (j + 1)) = bring (brings T (ks.take j)) (ks.getD j 0) := by
  rw [List.take_succ_eq_append_getElem hj, brings_snoc, getD_elem ks 0 hj]

theorem bring_mem (T : List Int) (k : Int) : k ∈ bring T k := by
  unfold bring
  split
  · assumption
  · simp

theorem makeIntsC (n : Nat) (hn : n ≤ 1000) (w : World) : (Instr.makeSlice 40 (.int .i64 (n : Int)) (.int .i64 (n : Int))).run Try.prog w = .ok (.slice (some ⟨w.heap.size, 0, none⟩) n n) (w.alloc (.cells (madeCells #[.int .i64 0] n) 3)) :=
  run_make_row' (P := Try.prog) 40 3 (.int .i64 0) 8 Try.underlying40 infoIntC rfl .i64 .i64 n (by omega) (by omega) w

/-- The row of kids behind j steps. -/
def kidRow (T ks : List Int) (j i : Nat) : Value := .int .i64 (if i < j then at1 (brings T (ks.take j)) (ks.getD i 0) else 0)

theorem kidRow_step {T ks : List Int} {j : Nat} (hj : j < ks.length) (i : Nat) : (if i = j then Value.int .i64 (at1 (bring (brings T (ks.take j)) (ks.getD j 0)) (ks.getD j 0)) else kidRow T ks j i) = kidRow T ks (j + 1) i := by
  unfold kidRow
  rw [brings_take hj]
  by_cases e : i = j
  · subst e
    rw [if_pos rfl, if_pos (by omega)]
  · rw [if_neg e]
    by_cases hi : i < j
    · rw [if_pos hi, if_pos (by omega)]
      have hm : ks.getD i 0 ∈ brings T (ks.take j) := by
        rw [brings_mem, getD_elem ks 0 (by omega)]
        exact Or.inr (List.mem_take_iff_getElem.2 ⟨i, by omega, rfl⟩)
      obtain ⟨r, hr⟩ := bring_pre (brings T (ks.take j)) (ks.getD j 0)
      rw [hr, at1_pre hm]
    · rw [if_neg hi, if_neg (by omega)]

set_option maxRecDepth 100000 in
set_option maxHeartbeats 4000000 in
theorem copyCell_any (x : Cl) (ka : Option Addr) (kc B B0 bm bt mb n : Nat) (v : Value) (T : List Int) (w : World) (h : BrAt w B bm bt mb n v T) (hB : B ≤ w.heap.size) (hl : x.ks.length ≤ 8) (hn : n ≤ 1000) (hT : T.length ≤ 1000) (hwf : ∀ k ∈ x.ks, (Lit.int .i64 k).wf = true)
    (hB0 : B0 ≤ B ∧ B0 ≤ bt ∧ B0 ≤ mb) (hks : ∀ W, Below B0 w W → IntsAt W ka x.ks) :
    Calls Try.prog 66 #[.agg #[.int .i64 x.n, .slice ka x.ks.length kc], .func (.func 65) #[] #[.pointer (some ⟨bm, 0, none⟩), .pointer (some ⟨bt, 0, none⟩)]] w fun e w' =>
      ∃ v' kb, e = .returned (.agg #[.int .i64 x.n, .slice (some ⟨kb, 0, none⟩) x.ks.length x.ks.length]) ∧ BrAt w' B bm bt mb (n + x.ks.length) v' (brings T x.ks) ∧ Later w v v' ∧ OffC (BrOff bt mb v) w w' ∧ w.heap.size ≤ kb ∧ v'.ownBlock ≠ some kb ∧
        w'.ownsRow w.heap.size 3 1 (.slice (some ⟨kb, 0, none⟩) x.ks.length x.ks.length) x.ks.length ((x.ks.map (at1 (brings T x.ks))).map (Value.int .i64)) := by
  obtain ⟨xn, ks⟩ := x
  dsimp only at *
  have eg := enters_of Try.func65 (by kernel_rfl) rfl
  have hmk := fun W => makeIntsC ks.length (by omega) W
  have HKS : Hid (∀ W, Below B0 w W → IntsAt W ka ks) := hks
  have HWF : Hid (∀ k ∈ ks, (Lit.int .i64 k).wf = true) := hwf
  have LTS : Hid (bm < w.heap.size ∧ bt < w.heap.size ∧ mb < w.heap.size) := ⟨box_lt h.bmE, box_lt h.btE, h.mp.lt⟩
  have BR : Hid (∀ (n' : Nat) (v' : Value) (T' : List Int) (k : Int) (W : World), BrAt W B bm bt mb n' v' T' → (Lit.int .i64 k).wf = true → n' < 100000 → T'.length < 100000 → B ≤ W.heap.size → Calls _ _ _ _ _) := fun n' v' T' k W h1 h2 h3 h4 h5 => bring_any B bm bt mb n' v' T' k W h1 h2 h3 h4 h5
  have TL : Hid (∀ j, (brings T (ks.take j)).length ≤ T.length + j) := fun j => by
    induction j with
    | zero => simp [brings]
    | succ j ih =>
      by_cases hj : j < ks.length
      · rw [brings_take hj]
        unfold bring
        split
        · omega
        · rw [List.length_append, List.length_singleton]; omega
      · rw [List.take_of_length_le (by omega)] at ih ⊢
        omega
  have H0 : Hid (BrAt w B bm bt mb n v T) := h
  have F0 : Hid (Far3 w.heap.size v) := fun j hj => Or.inl (h.own.lt j hj).2
  have RL : Hid (∀ i, i < ks.length → ks.getD i 0 ∈ ks) := fun i hi => by rw [getD_elem ks 0 hi]; exact List.getElem_mem hi
  have STEP : Hid (∀ j, j < ks.length → ∀ i, (if i = j then Value.int .i64 (at1 (bring (brings T (ks.take j)) (ks.getD j 0)) (ks.getD j 0)) else kidRow T ks j i) = kidRow T ks (j + 1) i) := fun j hj i => kidRow_step hj i
  have BT : Hid (∀ j, j < ks.length → brings T (ks.take (j + 1)) = bring (brings T (ks.take j)) (ks.getD j 0)) := fun j hj => brings_take hj
  obtain ⟨m, hm⟩ : ∃ m, ks.length = m := ⟨_, rfl⟩
  have HM : Hid (ks.length = m) := hm
  rw [hm] at hl hmk RL STEP BT ⊢
  clear h hks hwf hm
  go_enter Try.func66, Try.ntmps66
  go_wp2_with fail
  go_loopg [15] m (fun g s15 wr => ∃ (j : Nat) (v' : Value), j ≤ m ∧ m - j ≤ g ∧ s15 = .int .i64 j ∧ wr.heap[w.heap.size]? = some (.cells #[.int .i64 xn, .slice ka m kc] 62 (0, 0)) ∧ wr.heap[w.heap.size + 1]? = some (.cells #[.int .i64 0, .slice none 0 0] 62 (0, 0)) ∧ w.heap.size + 3 ≤ wr.heap.size ∧
      Hid (BrAt wr B bm bt mb (n + j) v' (brings T (ks.take j))) ∧ Hid (Later w v v') ∧ Hid (Far3 w.heap.size v') ∧ Hid (OffC (BrOff bt mb v) w wr) ∧ Hid (wr.rowIs (w.heap.size + 2) 3 m (kidRow T ks j)))
  case atStart =>
    refine ⟨0, v, by omega, by omega, rfl, ?_, ?_, by simp, ?_, Or.inl rfl, F0, ?_, ?_⟩
    · exact (Below.heap_alloc _ _ _ (by simp only [World.size_alloc]; omega)).trans ((Below.heap_alloc _ _ _ (by simp)).trans (heap_alloc_new w _))
    · refine (Below.heap_alloc _ _ _ (by simp)).trans ?_
      have := heap_alloc_new (w.alloc (.cells #[.int .i64 xn, .slice ka m kc] 62)) (.cells #[.int .i64 0, .slice none 0 0] 62)
      simpa using this
    · exact H0.out.below (((Below.refl _ _).alloc (Nat.le_refl _) _).alloc (by simp) _ |>.alloc (by simp; omega) _)
    · exact OffC.of_below (((Below.refl _ _).alloc (Nat.le_refl _) _).alloc (by simp) _ |>.alloc (by simp; omega) _)
    · have := World.rowIs_made ((w.alloc (.cells #[.int .i64 xn, .slice ka m kc] 62)).alloc (.cells #[.int .i64 0, .slice none 0 0] 62)) (.int .i64 0) m 3
      simp only [World.size_alloc] at this
      exact this.congr (fun i _ => by unfold kidRow; rw [if_neg (by omega)])
  case round =>
    obtain ⟨j, v', hj, hg, rfl, x1, x2, hsz, HBR, HLA, HFA, HOF, HRO⟩ := hrel
    have hx1 := x1
    by_cases hlt : j < m
    · have hlt2 : (j : Int) < (m : Int) := by omega
      have hbel : Below B0 w wr := HOF.out.below (by have := LTS.out.2.1; omega) (fun k hk => by
        rcases hk with e | e | e
        · omega
        · omega
        · have := (H0.out.own.lt k e).1; omega)
      obtain ⟨pb, po, ep, hpc⟩ := HKS.out wr hbel j (by rw [HM.out]; exact hlt)
      subst ep
      have hwk := HWF.out _ (RL.out j hlt)
      have TLj := TL.out j
      have STj : Hid _ := STEP.out j hlt
      have BTj : Hid _ := BT.out j hlt
      have BRj : Hid _ := BR.out (n + j) v' _ (ks.getD j 0) wr HBR.out hwk (by omega) (by omega) (by have := HOF.out.size; omega)
      clear hbel
      generalize ks.getD j 0 = y at *
      generalize brings T (ks.take j) = Tj at *
      generalize at1 (bring Tj y) y = A at *
      go_wp2_with fail
      refine Calls.mono BRj.out ?_
      rintro e w3 ⟨v3, rfl, hbr, hla, hof⟩
      have kp : ∀ i, w.heap.size ≤ i → i < w.heap.size + 3 → w3.heap[i]? = wr.heap[i]? := fun i h1 h2 => hof.block i (by omega) (fun hx => by
        have := LTS.out
        rcases hx with e | e | e
        · omega
        · omega
        · have := HFA.out i e; omega)
      have y1 := (kp w.heap.size (by omega) (by omega)).trans x1
      have y2 := (kp (w.heap.size + 1) (by omega) (by omega)).trans x2
      have row3 := HRO.out.of_block (kp (w.heap.size + 2) (by omega) (by omega))
      have rc := row3.cell hlt
      have rf := row3.frozen j
      have s3 := hof.size
      have HFA3 : Hid (Far3 w.heap.size v3) := HFA.out.later hla (by omega)
      have HLA3 : Hid (Later w v v3) := HLA.out.trans hla (by omega)
      have HOF3 : Hid (OffC (BrOff bt mb v) w w3) := HOF.out.trans hof (fun i hi hx => HLA.out.off hi hx)
      have FIN : Hid (BrAt (w3.setCell ⟨w.heap.size + 2, j, none⟩ (.int .i64 A)) B bm bt mb (n + (j + 1)) v3 (bring Tj y)) := hbr.kept (fun i hi hx => Below.heap_setCell _ _ _ _ (by
        show i ≠ w.heap.size + 2
        have := LTS.out
        rcases hx with e | e | e | e
        · omega
        · omega
        · omega
        · have := HFA3.out i e; omega))
      have ROW : Hid ((w3.setCell ⟨w.heap.size + 2, j, none⟩ (.int .i64 A)).rowIs (w.heap.size + 2) 3 m (kidRow T ks (j + 1))) := (row3.set j (.int .i64 A)).congr (fun i _ => STj.out i)
      have OFF : Hid (OffC (BrOff bt mb v) w (w3.setCell ⟨w.heap.size + 2, j, none⟩ (.int .i64 A))) := HOF3.out.trans (Y := fun i => i = w.heap.size + 2) (setCell_off _ _ _ _ rfl) (fun i hi hx => by have hx : i = w.heap.size + 2 := hx; omega)
      have Y1 : Hid ((w3.setCell ⟨w.heap.size + 2, j, none⟩ (.int .i64 A)).heap[w.heap.size]? = _) := (Below.heap_setCell _ _ _ _ (by show w.heap.size ≠ w.heap.size + 2; omega)).trans y1
      have Y2 : Hid ((w3.setCell ⟨w.heap.size + 2, j, none⟩ (.int .i64 A)).heap[w.heap.size + 1]? = _) := (Below.heap_setCell _ _ _ _ (by show w.heap.size + 1 ≠ w.heap.size + 2; omega)).trans y2
      have s4 : w.heap.size + 2 < w3.heap.size := by omega
      clear kp hbr hla hof row3 y1 y2 x1 x2 HFA HLA HOF hx1
      go_wp2_with fail
      go_roundg (m - (j + 1))
      case measure => omega
      case rel => exact ⟨j + 1, v3, by omega, by omega, by go_num, Y1.out, Y2.out, by simp [World.setCell]; omega, (show BrAt _ _ _ _ _ _ _ _ by rw [BTj.out]; exact FIN.out), HLA3, HFA3, OFF, ROW⟩
    · have hje : m = j := by omega
      subst hje
      have hc0 : wr.cell? ⟨w.heap.size, 0, none⟩ = some (.int .i64 xn) := by simp [World.cell?, x1]
      have d0 : wr.cell? ⟨w.heap.size + 1, 0, none⟩ = some (.int .i64 0) := by simp [World.cell?, x2]
      have d1 : wr.cell? ⟨w.heap.size + 1, 1, none⟩ = some (.slice none 0 0) := by simp [World.cell?, x2]
      have df : ∀ o, wr.frozen? ⟨w.heap.size + 1, o, none⟩ = false := fun o => by simp [World.frozen?, x2]
      have df0 := df 0
      have df1 := df 1
      have s4 : w.heap.size + 1 < wr.heap.size := by omega
      have eT : brings T (ks.take m) = brings T ks := by rw [List.take_of_length_le (by rw [HM.out]; omega)]
      have FIN : Hid (∀ va vb, let w9 := (wr.setCell ⟨w.heap.size + 1, 0, none⟩ va).setCell ⟨w.heap.size + 1, 1, none⟩ vb; BrAt w9 B bm bt mb (n + m) v' (brings T ks) ∧ OffC (BrOff bt mb v) w w9 ∧ w9.ownsRow w.heap.size 3 1 (.slice (some ⟨w.heap.size + 2, 0, none⟩) m m) m ((ks.map (at1 (brings T ks))).map (Value.int .i64))) := fun va vb => by
        intro w9
        have kp : ∀ i, i ≠ w.heap.size + 1 → w9.heap[i]? = wr.heap[i]? := fun i hi => (Below.heap_setCell _ _ _ _ hi).trans (Below.heap_setCell _ _ _ _ hi)
        refine ⟨?_, ?_, ?_⟩
        · have h1 := HBR.out
          rw [eT] at h1
          refine h1.kept (fun i hi hx => kp i ?_)
          have := LTS.out
          rcases hx with e | e | e | e
          · omega
          · omega
          · omega
          · have := HFA.out i e; omega
        · refine HOF.out.trans (Y := fun i => i = w.heap.size + 1) (OffC.trans (Y := fun i => i = w.heap.size + 1) (setCell_off _ _ _ _ rfl) (setCell_off _ _ _ _ rfl) (fun _ _ h => h)) (fun i hi hx => ?_)
          have hx : i = w.heap.size + 1 := hx
          omega
        · have hr := HRO.out.of_block (kp (w.heap.size + 2) (by omega))
          have hlen : (ks.map (at1 (brings T ks))).length = m := by rw [List.length_map, HM.out]
          have := own_of_row (B := w.heap.size) (l := ks.map (at1 (brings T ks))) hr (fun i hi => by
            rw [hlen] at hi
            unfold kidRow
            rw [if_pos hi, eT, getD_elem (ks.map (at1 (brings T ks))) 0 (by rw [hlen]; exact hi), List.getElem_map, getD_elem ks 0 (by rw [HM.out]; exact hi)]) (by omega) (by unfold maxLen; omega) (by omega)
          rw [hlen] at this
          exact this
      have NE : Hid (v'.ownBlock ≠ some (w.heap.size + 2)) := fun e => by have := HFA.out _ e; omega
      have FN := FIN.out (.int .i64 xn) (.slice (some ⟨w.heap.size + 1 + 1, 0, none⟩) m m)
      have FN2 : Hid _ := FN
      have r0 : (wr.setCell ⟨w.heap.size + 1, 0, none⟩ (.int .i64 xn)).cell? ⟨w.heap.size + 1, 0, none⟩ = some (.int .i64 xn) := World.cell?_setCell_same _ _ _ d0
      have r1 : ((wr.setCell ⟨w.heap.size + 1, 0, none⟩ (.int .i64 xn)).setCell ⟨w.heap.size + 1, 1, none⟩ (.slice (some ⟨w.heap.size + 1 + 1, 0, none⟩) m m)).cell? ⟨w.heap.size + 1, 1, none⟩ = some (.slice (some ⟨w.heap.size + 1 + 1, 0, none⟩) m m) := World.cell?_setCell_same _ _ _ ((World.cell?_setCell_other _ _ _ _ (by intro e; cases e)).trans d1)
      clear x1 x2 hx1 df HRO HOF HBR FIN FN
      go_wp2_with fail
      refine bodyPost_ret (v := .agg #[.int .i64 xn, .slice (some ⟨w.heap.size + 1 + 1, 0, none⟩) m m]) (by simp [results, Try.results66, go_sem, r0, r1]) rfl ?_
      refine ⟨v', w.heap.size + 2, rfl, FN2.out.1, HLA.out, FN2.out.2.1, by omega, NE.out, ?_⟩
      have h9 := FN2.out.2.2
      first | exact h9 | (simp only [List.map_map] at h9 ⊢; exact h9)
end Go.Proofs.Ytgjfmepbphfjoaa
