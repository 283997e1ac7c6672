/-
  The contract of leave: a node taken from its Parent's children, in a store of the call's own.
-/
import Derived.Test.YtplkfacaphejgaaUUaSo
namespace Go.Proofs.Ytplkfacaphejgaa
open Go.RowKit

theorem one_more' {w1 : World} {p : Addr} {v : Value} (h : w1.cell? p = some v) (o1 : Obj) : (w1.alloc o1).cell? p = some v :=
  (((Below.refl _ _).alloc (Nat.le_refl _) o1).cell (World.block_lt_of_cell? _ _ h)).trans h

set_option maxHeartbeats 400000 in
theorem leaveTells_any (x c : Int) (b : Nat) (w : World) (hc : w.cell? ⟨b, 0, none⟩ = some (.int .i64 c)) :
    Calls Try.prog 65 #[.int .i64 x, .pointer (some ⟨b, 0, none⟩)] w fun e w' => e = .returned (.bool (decide (x = c))) ∧ w' = w := by
  by_cases h : x = c
  · subst h
    go_enter Try.func65, Try.ntmps65
    go_wp2
    go_ret
    exact ⟨by simp, rfl⟩
  · have hd : decide (x = c) = false := decide_eq_false h
    have hq : (x == c) = false := beq_eq_false_iff_ne.2 h
    rw [hd]
    go_enter Try.func65, Try.ntmps65
    go_wp2
    go_ret
    refine ⟨?_, rfl⟩
    first
      | rfl
      | simp [hq]

def leaveNd (S : List Nd) (pa ch : Nat) (j : Nat) : Nd :=
  if j = ch then ⟨(nd S ch).u, (nd S ch).n, (nd S ch).t, (nd S ch).m, -1, (nd S ch).ks, (nd S ch).h, (nd S ch).c⟩
  else if j = pa then ⟨(nd S pa).u, (nd S pa).n, (nd S pa).t, (nd S pa).m, (nd S pa).p, flt (fun x => decide (x = (ch : Int))) (nd S pa).ks, (nd S pa).h, (nd S pa).c⟩
  else nd S j

/-- The store with ch no more among pa's children. -/
def leaveS (S : List Nd) (pa ch : Nat) : List Nd := (List.range S.length).map (leaveNd S pa ch)

theorem leaveS_length (S : List Nd) (pa ch : Nat) : (leaveS S pa ch).length = S.length := by simp [leaveS]
theorem nd_leaveS (S : List Nd) (pa ch j : Nat) (hj : j < S.length) : nd (leaveS S pa ch) j = leaveNd S pa ch j := by
  rw [nd_elem (by rw [leaveS_length]; exact hj)]
  simp [leaveS]

theorem leave_after {w w2 : World} {B g : Nat} {S : List Nd} {kb kc : Nat → Nat} (hO : Own w B g S kb kc S.length) {W : World} (hb : Below w.heap.size w W) {pa ch : Nat} (hpa : pa < S.length) (hch : ch < S.length) (hne : pa ≠ ch)
    (hoff : Off (fun b => b = kb pa) W w2) {G : Nat → Value} (hG : w2.rowIs (kb pa) 3 (kc pa) G) (hGk : ∀ j, j < (flt (fun x => decide (x = (ch : Int))) (nd S pa).ks).length → G j = .int .i64 ((flt (fun x => decide (x = (ch : Int))) (nd S pa).ks).getD j 0)) :
    Own ((w2.setCell ⟨g, pa * 8 + 5, none⟩ (.slice (some ⟨kb pa, 0, none⟩) (flt (fun x => decide (x = (ch : Int))) (nd S pa).ks).length (kc pa))).setCell ⟨g, ch * 8 + 4, none⟩ (.int .i64 (-1))) B g (leaveS S pa ch) kb kc (leaveS S pa ch).length := by
  obtain ⟨hB, F, hF, hN, hg, hd⟩ := hO
  have hgl := hF.lt
  have hW : ∀ b, b < w.heap.size → b ≠ kb pa → w2.heap[b]? = w.heap[b]? := fun b h1 h2 => (hoff.block b (Nat.lt_of_lt_of_le h1 hb.size) h2).trans (hb.block b h1)
  have hgk : g ≠ kb pa := by have := hg pa hpa; omega
  have hF2 := (((hF.of_block (hW g hgl hgk)).set (pa * 8 + 5) (.slice (some ⟨kb pa, 0, none⟩) (flt (fun x => decide (x = (ch : Int))) (nd S pa).ks).length (kc pa))).set (ch * 8 + 4) (.int .i64 (-1)))
  rw [leaveS_length]
  refine ⟨hB, _, by rw [leaveS_length]; exact hF2, fun j hj => ?_, hg, hd⟩
  rw [nd_leaveS S pa ch j hj]
  obtain ⟨e0, e1, e2, e3, e4, e5, e6, e7, e8, e8b, G0, hG0, e9⟩ := hN j hj
  unfold leaveNd
  by_cases h1 : j = ch
  · subst h1
    rw [if_pos rfl]
    have hr := ((hG0.of_block (hW (kb j) hG0.lt (fun e => hne (hd pa hpa j hj e.symm)))).setOther (a := ⟨g, pa * 8 + 5, none⟩) (by have := hg j hj; simp; omega) (.slice (some ⟨kb pa, 0, none⟩) (flt (fun x => decide (x = (j : Int))) (nd S pa).ks).length (kc pa))).setOther (a := ⟨g, j * 8 + 4, none⟩) (by have := hg j hj; simp; omega) (.int .i64 (-1))
    refine ⟨?_, ?_, ?_, ?_, ?_, ?_, ?_, ?_, e8, e8b, G0, hr, e9⟩
    all_goals dsimp only
    · rw [if_neg (by omega), if_neg (by omega), e0]
    · rw [if_neg (by omega), if_neg (by omega), e1]
    · rw [if_neg (by omega), if_neg (by omega), e2]
    · rw [if_neg (by omega), if_neg (by omega), e3]
    · rw [if_pos rfl]
    · rw [if_neg (by omega), if_neg (by omega), e5]
    · rw [if_neg (by omega), if_neg (by omega), e6]
    · rw [if_neg (by omega), if_neg (by omega), e7]
  · rw [if_neg h1]
    by_cases h2 : j = pa
    · subst h2
      rw [if_pos rfl]
      have hr := (hG.setOther (a := ⟨g, j * 8 + 5, none⟩) (by simp; omega) (.slice (some ⟨kb j, 0, none⟩) (flt (fun x => decide (x = (ch : Int))) (nd S j).ks).length (kc j))).setOther (a := ⟨g, ch * 8 + 4, none⟩) (by simp; omega) (.int .i64 (-1))
      refine ⟨?_, ?_, ?_, ?_, ?_, ?_, ?_, ?_, Nat.le_trans (flt_le _ _) e8, e8b, G, hr, hGk⟩
      all_goals dsimp only
      · rw [if_neg (by omega), if_neg (by omega), e0]
      · rw [if_neg (by omega), if_neg (by omega), e1]
      · rw [if_neg (by omega), if_neg (by omega), e2]
      · rw [if_neg (by omega), if_neg (by omega), e3]
      · rw [if_neg (by omega), if_neg (by omega), e4]
      · rw [if_neg (by omega), if_pos rfl]
      · rw [if_neg (by omega), if_neg (by omega), e6]
      · rw [if_neg (by omega), if_neg (by omega), e7]
    · rw [if_neg h2]
      have hr := ((hG0.of_block (hW (kb j) hG0.lt (fun e => h2 (hd j hj pa hpa e)))).setOther (a := ⟨g, pa * 8 + 5, none⟩) (by have := hg j hj; simp; omega) (.slice (some ⟨kb pa, 0, none⟩) (flt (fun x => decide (x = (ch : Int))) (nd S pa).ks).length (kc pa))).setOther (a := ⟨g, ch * 8 + 4, none⟩) (by have := hg j hj; simp; omega) (.int .i64 (-1))
      refine ⟨?_, ?_, ?_, ?_, ?_, ?_, ?_, ?_, e8, e8b, G0, hr, e9⟩
      all_goals
        dsimp only
        rw [if_neg (by omega), if_neg (by omega)]
        assumption

set_option maxHeartbeats 1000000 in
theorem leave_any (B g c : Nat) (S : List Nd) (kb kc : Nat → Nat) (pa ch : Nat) (w : World) (hO : Own w B g S kb kc S.length) (hpa : pa < S.length) (hch : ch < S.length) (hne : pa ≠ ch) (hp : (nd S ch).p = pa) :
    Calls Try.prog 43 #[.slice (some ⟨g, 0, none⟩) S.length c, .int .i64 ch] w fun e w' => e = .returned (.tuple #[]) ∧ Off (fun b => b = g ∨ b = kb pa) w w' ∧ Own w' B g (leaveS S pa ch) kb kc (leaveS S pa ch).length := by
  have AF : Hid (∀ (W w2 : World) (G' : Nat → Value), Below w.heap.size w W → Off (fun b => b = kb pa) W w2 → w2.rowIs (kb pa) 3 (kc pa) G' → (∀ j, j < (flt (fun x => decide (x = (ch : Int))) (nd S pa).ks).length → G' j = .int .i64 ((flt (fun x => decide (x = (ch : Int))) (nd S pa).ks).getD j 0)) → Own ((w2.setCell ⟨g, pa * 8 + 5, none⟩ (.slice (some ⟨kb pa, 0, none⟩) (flt (fun x => decide (x = (ch : Int))) (nd S pa).ks).length (kc pa))).setCell ⟨g, ch * 8 + 4, none⟩ (.int .i64 (-1))) B g (leaveS S pa ch) kb kc (leaveS S pa ch).length) := fun W w2 G' h1 h2 h3 h4 => leave_after hO h1 hpa hch hne h2 h3 h4
  obtain ⟨hB, F, hF, hNd, hg, hd⟩ := hO
  obtain ⟨e0, e1, e2, e3, e4, e5, e6, e7, e8, e8b, G, hG, e9⟩ := hNd pa hpa
  obtain ⟨f0, f1, f2, f3, f4, f5, f6, f7, f8, f8b, G2, hG2, f9⟩ := hNd ch hch
  have hgl := hF.lt
  have hfz := hF.frozen
  have q5 : w.cell? ⟨g, pa * 8 + 5, none⟩ = some (.slice (some ⟨kb pa, 0, none⟩) (nd S pa).ks.length (kc pa)) := by rw [hF.cell (by omega), e5]
  have q4 : w.cell? ⟨g, ch * 8 + 4, none⟩ = some (.int .i64 (pa : Int)) := by rw [hF.cell (by omega), f4, hp]
  have hkl := hG.lt
  have hkg := hg pa hpa
  have dd : Hid (∀ (W : World), Below w.heap.size w W → W.cell? ⟨w.heap.size, 0, none⟩ = some (.int .i64 (ch : Int)) → Calls Try.prog 64 #[.slice (some ⟨kb pa, 0, none⟩) (nd S pa).ks.length (kc pa), .func (.func 65) #[] #[.pointer (some ⟨w.heap.size, 0, none⟩)]] W (Deleted W (kb pa) (kc pa) (flt (fun x => decide (x = (ch : Int))) (nd S pa).ks))) := fun W hW hcell =>
    deleteFunc_any 65 #[.pointer (some ⟨w.heap.size, 0, none⟩)] (fun x => decide (x = (ch : Int))) (kb pa) (nd S pa).ks.length (kc pa) (nd S pa).ks G W rfl e8 (by omega) (hG.of_block (hW.block _ hG.lt)) e9 (enters_of Try.func65 (by kernel_rfl) rfl)
      (fun x w1 hoff => (leaveTells_any x (ch : Int) w.heap.size w1 ((hoff.cell (World.block_lt_of_cell? _ _ hcell) (by show ¬ (w.heap.size = kb pa); omega)).trans hcell)).mono (fun e w3 h => ⟨h.1, by rw [h.2]; exact Below.refl _ _⟩))
  have hpa2 : (pa : Int) < (S.length : Int) := by omega
  have hch2 : (ch : Int) < (S.length : Int) := by omega
  have hpn : ((pa : Int) == -1) = false := beq_eq_false_iff_ne.2 (by omega)
  clear e0 e1 e2 e3 e4 e5 e6 e7 e8 e8b hG e9 f0 f1 f2 f3 f4 f5 f6 f7 f8 f8b hG2 f9 hF hNd hd hg hp
  generalize (nd S pa).ks.length = L at *
  generalize S.length = n at *
  have Q5 := one_more' q5
  have Q4 := one_more' q4
  have HFR : Hid (∀ w2 o1, Off (fun b => b = kb pa) (w.alloc o1) w2 → w2.cell? ⟨g, pa * 8 + 5, none⟩ = some (.slice (some ⟨kb pa, 0, none⟩) L (kc pa)) ∧ (∀ v, (w2.setCell ⟨g, pa * 8 + 5, none⟩ v).cell? ⟨g, ch * 8 + 4, none⟩ = some (.int .i64 (pa : Int))) ∧ (∀ o, w2.frozen? ⟨g, o, none⟩ = false)) := fun w2 o1 h2 => by
    have hal := (Below.refl _ w).alloc (Nat.le_refl _) o1
    refine ⟨?_, fun v => ?_, fun o => ?_⟩
    · exact ((h2.cell (by simp; omega) (by simp; omega)).trans (hal.cell (by exact hgl))).trans q5
    · rw [World.cell?_setCell_other _ _ _ _ (by simp)]
      exact ((h2.cell (by simp; omega) (by simp; omega)).trans (hal.cell (by exact hgl))).trans q4
    · exact ((h2.frozen (by simp; omega) (by simp; omega)).trans (hal.frozen (by exact hgl))).trans (hfz o)
  go_enter Try.func43, Try.ntmps43
  go_wp2_with (go_at_call 64; refine (dd.out _ ((Below.refl _ _).alloc (Nat.le_refl _) _) (by go_simp)).mono ?_; rintro e w2 ⟨rfl, hoff, G', hG', hGk'⟩; obtain ⟨s5, s4, sf⟩ := HFR.out w2 _ hoff; have hbox : w2.cell? ⟨w.heap.size, 0, none⟩ = some (.int .i64 (ch : Int)) := (hoff.cell (by simp) (by show ¬ (w.heap.size = kb pa); omega)).trans (by go_simp); have HG' : Hid _ := hG'; have HGk : Hid _ := hGk'; have HOFF : Hid _ := hoff; clear hG' hGk' hoff)
  refine bodyPost_end (v := .tuple #[]) (by simp [results, Try.results43, go_sem]) rfl ⟨rfl, ?_, AF.out _ _ _ ((Below.refl _ _).alloc (Nat.le_refl _) _) HOFF.out HG'.out HGk.out⟩
  have h1 : Off (fun b => b = g ∨ b = kb pa) w w2 := (Off.of_below ((Below.refl _ _).alloc (Nat.le_refl _) _)).trans (HOFF.out.mono (fun k _ h => Or.inr h))
  exact (h1.trans (off_setCell _ (Or.inl rfl) _)).trans (off_setCell _ (Or.inl rfl) _)
end Go.Proofs.Ytplkfacaphejgaa
