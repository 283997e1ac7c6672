/-
  The contract of leave: a node taken from its Parent's children, in a store of the call's own.
-/
import Derived.Test.YtgjfmepbphfjoaaGreatUTjUa
import Derived.Test.YtgjfmepbphfjoaaGreatUTk
import Derived.Test.YtgjfmepbphfjoaaGreatUTbTcTfSn
import Derived.Test.YtgjfmepbphfjoaaGreatUTdTeSo
import Derived.Test.YtgjfmepbphfjoaaGreatUSmBoSpLay
import Derived.BigQuiet
namespace Go.Proofs.YtgjfmepbphfjoaaGreat
open Go.RowKit

theorem one_more' {w1 : World} {p : Addr} {v : Value} (h : w1.cell? p = some v) (o1 : Obj) : (w1.alloc o1).cell? p = some v :=
  (((Below.refl _ _).alloc (Nat.le_refl _) o1).cell (World.block_lt_of_cell? _ _ h)).trans h

set_option maxHeartbeats 400000 in
theorem leaveTells_any (x c : Int) (b : Nat) (w : World) (hc : w.cell? ⟨b, 0, none⟩ = some (.int .i64 c)) :
    Calls Tryz.prog 126 #[.int .i64 x, .pointer (some ⟨b, 0, none⟩)] w fun e w' => e = .returned (.bool (decide (x = c))) ∧ w' = w := by
  by_cases h : x = c
  · subst h
    go_enter Tryz.func126, Tryz.ntmps126
    go_wp2
    go_ret
    exact ⟨by simp, rfl⟩
  · have hd : decide (x = c) = false := decide_eq_false h
    have hq : (x == c) = false := beq_eq_false_iff_ne.2 h
    rw [hd]
    go_enter Tryz.func126, Tryz.ntmps126
    go_wp2
    go_ret
    refine ⟨?_, rfl⟩
    first
      | rfl
      | simp [hq]

def leaveNd (S : List Nd) (pa ch : Nat) (j : Nat) : Nd :=
  if j = ch then ⟨(nd S ch).u, (nd S ch).n, (nd S ch).t, (nd S ch).m, -1, (nd S ch).ks, (nd S ch).h, (nd S ch).c⟩
  else if j = pa then ⟨(nd S pa).u, (nd S pa).n, (nd S pa).t, (nd S pa).m, (nd S pa).p, flt (fun x => decide (x = (ch : Int))) (nd S pa).ks, (nd S pa).h, (nd S pa).c⟩
  else nd S j

/-- The store with ch no more among pa's children. -/
def leaveS (S : List Nd) (pa ch : Nat) : List Nd := (List.range S.length).map (leaveNd S pa ch)

theorem leaveS_length (S : List Nd) (pa ch : Nat) : (leaveS S pa ch).length = S.length := by simp [leaveS]
theorem nd_leaveS (S : List Nd) (pa ch j : Nat) (hj : j < S.length) : nd (leaveS S pa ch) j = leaveNd S pa ch j := by
  rw [nd_elem (by rw [leaveS_length]; exact hj)]
  simp [leaveS]

theorem leave_after {w w2 : World} {B g : Nat} {S : List Nd} {kb kc : Nat → Nat} (hO : Own w B g S kb kc S.length) {W : World} (hb : Below w.heap.size w W) {pa ch : Nat} (hpa : pa < S.length) (hch : ch < S.length) (hne : pa ≠ ch)
    (hoff : Off (fun b => b = kb pa) W w2) {G : Nat → Value} (hG : w2.rowIs (kb pa) 3 (kc pa) G) (hGk : ∀ j, j < (flt (fun x => decide (x = (ch : Int))) (nd S pa).ks).length → G j = .int .i64 ((flt (fun x => decide (x = (ch : Int))) (nd S pa).ks).getD j 0)) :
    Own ((w2.setCell ⟨g, pa * 8 + 5, none⟩ (.slice (some ⟨kb pa, 0, none⟩) (flt (fun x => decide (x = (ch : Int))) (nd S pa).ks).length (kc pa))).setCell ⟨g, ch * 8 + 4, none⟩ (.int .i64 (-1))) B g (leaveS S pa ch) kb kc (leaveS S pa ch).length := by
  obtain ⟨hB, F, hF, hN, hg, hd⟩ := hO
  have hgl := hF.lt
  have hW : ∀ b, b < w.heap.size → b ≠ kb pa → w2.heap[b]? = w.heap[b]? := fun b h1 h2 => (hoff.block b (Nat.lt_of_lt_of_le h1 hb.size) h2).trans (hb.block b h1)
  have hgk : g ≠ kb pa := by have := hg pa hpa; omega
  have hF2 := (((hF.of_block (hW g hgl hgk)).set (pa * 8 + 5) (.slice (some ⟨kb pa, 0, none⟩) (flt (fun x => decide (x = (ch : Int))) (nd S pa).ks).length (kc pa))).set (ch * 8 + 4) (.int .i64 (-1)))
  rw [leaveS_length]
  refine ⟨hB, _, by rw [leaveS_length]; exact hF2, fun j hj => ?_, hg, hd⟩
  rw [nd_leaveS S pa ch j hj]
  obtain ⟨e0, e1, e2, e3, e4, e5, e6, e7, e8, e8b, G0, hG0, e9⟩ := hN j hj
  unfold leaveNd
  by_cases h1 : j = ch
  · subst h1
    rw [if_pos rfl]
    have hr := ((hG0.of_block (hW (kb j) hG0.lt (fun e => hne (hd pa hpa j hj e.symm)))).setOther (a := ⟨g, pa * 8 + 5, none⟩) (by have := hg j hj; simp; omega) (.slice (some ⟨kb pa, 0, none⟩) (flt (fun x => decide (x = (j : Int))) (nd S pa).ks).length (kc pa))).setOther (a := ⟨g, j * 8 + 4, none⟩) (by have := hg j hj; simp; omega) (.int .i64 (-1))
    refine ⟨?_, ?_, ?_, ?_, ?_, ?_, ?_, ?_, e8, e8b, G0, hr, e9⟩
    all_goals dsimp only
    · rw [if_neg (by omega), if_neg (by omega), e0]
    · rw [if_neg (by omega), if_neg (by omega), e1]
    · rw [if_neg (by omega), if_neg (by omega), e2]
    · rw [if_neg (by omega), if_neg (by omega), e3]
    · rw [if_pos rfl]
    · rw [if_neg (by omega), if_neg (by omega), e5]
    · rw [if_neg (by omega), if_neg (by omega), e6]
    · rw [if_neg (by omega), if_neg (by omega), e7]
  · rw [if_neg h1]
    by_cases h2 : j = pa
    · subst h2
      rw [if_pos rfl]
      have hr := (hG.setOther (a := ⟨g, j * 8 + 5, none⟩) (by simp; omega) (.slice (some ⟨kb j, 0, none⟩) (flt (fun x => decide (x = (ch : Int))) (nd S j).ks).length (kc j))).setOther (a := ⟨g, ch * 8 + 4, none⟩) (by simp; omega) (.int .i64 (-1))
      refine ⟨?_, ?_, ?_, ?_, ?_, ?_, ?_, ?_, Nat.le_trans (flt_le _ _) e8, e8b, G, hr, hGk⟩
      all_goals dsimp only
      · rw [if_neg (by omega), if_neg (by omega), e0]
      · rw [if_neg (by omega), if_neg (by omega), e1]
      · rw [if_neg (by omega), if_neg (by omega), e2]
      · rw [if_neg (by omega), if_neg (by omega), e3]
      · rw [if_neg (by omega), if_neg (by omega), e4]
      · rw [if_neg (by omega), if_pos rfl]
      · rw [if_neg (by omega), if_neg (by omega), e6]
      · rw [if_neg (by omega), if_neg (by omega), e7]
    · rw [if_neg h2]
      have hr := ((hG0.of_block (hW (kb j) hG0.lt (fun e => h2 (hd j hj pa hpa e)))).setOther (a := ⟨g, pa * 8 + 5, none⟩) (by have := hg j hj; simp; omega) (.slice (some ⟨kb pa, 0, none⟩) (flt (fun x => decide (x = (ch : Int))) (nd S pa).ks).length (kc pa))).setOther (a := ⟨g, ch * 8 + 4, none⟩) (by have := hg j hj; simp; omega) (.int .i64 (-1))
      refine ⟨?_, ?_, ?_, ?_, ?_, ?_, ?_, ?_, e8, e8b, G0, hr, e9⟩
      all_goals
        dsimp only
        rw [if_neg (by omega), if_neg (by omega)]
        assumption

set_option maxHeartbeats 1000000 in
theorem leave_any (B g c : Nat) (S : List Nd) (kb kc : Nat → Nat) (pa ch : Nat) (w : World) (hO : Own w B g S kb kc S.length) (hpa : pa < S.length) (hch : ch < S.length) (hne : pa ≠ ch) (hp : (nd S ch).p = pa) :
    Calls Tryz.prog 106 #[.slice (some ⟨g, 0, none⟩) S.length c, .int .i64 ch] w fun e w' => e = .returned (.tuple #[]) ∧ Off (fun b => b = g ∨ b = kb pa) w w' ∧ Own w' B g (leaveS S pa ch) kb kc (leaveS S pa ch).length := by
  have AF : Hid (∀ (W w2 : World) (G' : Nat → Value), Below w.heap.size w W → Off (fun b => b = kb pa) W w2 → w2.rowIs (kb pa) 3 (kc pa) G' → (∀ j, j < (flt (fun x => decide (x = (ch : Int))) (nd S pa).ks).length → G' j = .int .i64 ((flt (fun x => decide (x = (ch : Int))) (nd S pa).ks).getD j 0)) → Own ((w2.setCell ⟨g, pa * 8 + 5, none⟩ (.slice (some ⟨kb pa, 0, none⟩) (flt (fun x => decide (x = (ch : Int))) (nd S pa).ks).length (kc pa))).setCell ⟨g, ch * 8 + 4, none⟩ (.int .i64 (-1))) B g (leaveS S pa ch) kb kc (leaveS S pa ch).length) := fun W w2 G' h1 h2 h3 h4 => leave_after hO h1 hpa hch hne h2 h3 h4
  obtain ⟨hB, F, hF, hNd, hg, hd⟩ := hO
  obtain ⟨e0, e1, e2, e3, e4, e5, e6, e7, e8, e8b, G, hG, e9⟩ := hNd pa hpa
  obtain ⟨f0, f1, f2, f3, f4, f5, f6, f7, f8, f8b, G2, hG2, f9⟩ := hNd ch hch
  have hgl := hF.lt
  have hfz := hF.frozen
  have q5 : w.cell? ⟨g, pa * 8 + 5, none⟩ = some (.slice (some ⟨kb pa, 0, none⟩) (nd S pa).ks.length (kc pa)) := by rw [hF.cell (by omega), e5]
  have q4 : w.cell? ⟨g, ch * 8 + 4, none⟩ = some (.int .i64 (pa : Int)) := by rw [hF.cell (by omega), f4, hp]
  have hkl := hG.lt
  have hkg := hg pa hpa
  have dd : Hid (∀ (W : World), Below w.heap.size w W → W.cell? ⟨w.heap.size, 0, none⟩ = some (.int .i64 (ch : Int)) → Calls Tryz.prog 125 #[.slice (some ⟨kb pa, 0, none⟩) (nd S pa).ks.length (kc pa), .func (.func 126) #[] #[.pointer (some ⟨w.heap.size, 0, none⟩)]] W (Deleted W (kb pa) (kc pa) (flt (fun x => decide (x = (ch : Int))) (nd S pa).ks))) := fun W hW hcell =>
    deleteFunc_any 126 #[.pointer (some ⟨w.heap.size, 0, none⟩)] (fun x => decide (x = (ch : Int))) (kb pa) (nd S pa).ks.length (kc pa) (nd S pa).ks G W rfl e8 (by omega) (hG.of_block (hW.block _ hG.lt)) e9 (enters_of Tryz.func126 (by kernel_rfl) rfl)
      (fun x w1 hoff => (leaveTells_any x (ch : Int) w.heap.size w1 ((hoff.cell (World.block_lt_of_cell? _ _ hcell) (by show ¬ (w.heap.size = kb pa); omega)).trans hcell)).mono (fun e w3 h => ⟨h.1, by rw [h.2]; exact Below.refl _ _⟩))
  have hpa2 : (pa : Int) < (S.length : Int) := by omega
  have hch2 : (ch : Int) < (S.length : Int) := by omega
  have hpn : ((pa : Int) == -1) = false := beq_eq_false_iff_ne.2 (by omega)
  clear e0 e1 e2 e3 e4 e5 e6 e7 e8 e8b hG e9 f0 f1 f2 f3 f4 f5 f6 f7 f8 f8b hG2 f9 hF hNd hd hg hp
  generalize (nd S pa).ks.length = L at *
  generalize S.length = n at *
  have Q5 := one_more' q5
  have Q4 := one_more' q4
  have HFR : Hid (∀ w2 o1, Off (fun b => b = kb pa) (w.alloc o1) w2 → w2.cell? ⟨g, pa * 8 + 5, none⟩ = some (.slice (some ⟨kb pa, 0, none⟩) L (kc pa)) ∧ (∀ v, (w2.setCell ⟨g, pa * 8 + 5, none⟩ v).cell? ⟨g, ch * 8 + 4, none⟩ = some (.int .i64 (pa : Int))) ∧ (∀ o, w2.frozen? ⟨g, o, none⟩ = false)) := fun w2 o1 h2 => by
    have hal := (Below.refl _ w).alloc (Nat.le_refl _) o1
    refine ⟨?_, fun v => ?_, fun o => ?_⟩
    · exact ((h2.cell (by simp; omega) (by simp; omega)).trans (hal.cell (by exact hgl))).trans q5
    · rw [World.cell?_setCell_other _ _ _ _ (by simp)]
      exact ((h2.cell (by simp; omega) (by simp; omega)).trans (hal.cell (by exact hgl))).trans q4
    · exact ((h2.frozen (by simp; omega) (by simp; omega)).trans (hal.frozen (by exact hgl))).trans (hfz o)
  go_enter Tryz.func106, Tryz.ntmps106
  go_wp2_with (go_at_call 125; refine (dd.out _ ((Below.refl _ _).alloc (Nat.le_refl _) _) (by go_simp)).mono ?_; rintro e w2 ⟨rfl, hoff, G', hG', hGk'⟩; obtain ⟨s5, s4, sf⟩ := HFR.out w2 _ hoff; have hbox : w2.cell? ⟨w.heap.size, 0, none⟩ = some (.int .i64 (ch : Int)) := (hoff.cell (by simp) (by show ¬ (w.heap.size = kb pa); omega)).trans (by go_simp); have HG' : Hid _ := hG'; have HGk : Hid _ := hGk'; have HOFF : Hid _ := hoff; clear hG' hGk' hoff)
  refine bodyPost_end (v := .tuple #[]) (by simp [results, Tryz.results106, go_sem]) rfl ⟨rfl, ?_, AF.out _ _ _ ((Below.refl _ _).alloc (Nat.le_refl _) _) HOFF.out HG'.out HGk.out⟩
  have h1 : Off (fun b => b = g ∨ b = kb pa) w w2 := (Off.of_below ((Below.refl _ _).alloc (Nat.le_refl _) _)).trans (HOFF.out.mono (fun k _ h => Or.inr h))
  exact (h1.trans (off_setCell _ (Or.inl rfl) _)).trans (off_setCell _ (Or.inl rfl) _)
end Go.Proofs.YtgjfmepbphfjoaaGreat

namespace Go.Proofs.YtgjfmepbphfjoaaGreat
open Go.RowKit

/-- The store in which ch has left its Parent's children, if it had one. -/
def leaveG (S : List Nd) (ch : Nat) : List Nd := if (nd S ch).p = -1 then S else leaveS S (nd S ch).p.toNat ch

theorem leaveG_length (S : List Nd) (ch : Nat) : (leaveG S ch).length = S.length := by
  unfold leaveG
  split
  · rfl
  · exact leaveS_length _ _ _

theorem Own.up {w : World} {B g : Nat} {S : List Nd} {kb kc : Nat → Nat} (h : Own w B g S kb kc S.length) (w3 : World) (hup : ∀ b, g ≤ b → w3.heap[b]? = w.heap[b]?) : NdsAt w3 (some ⟨g, 0, none⟩) S := by
  obtain ⟨hB, F, hF, hN, hg, hd⟩ := h
  refine Own.nds (B := B) (kb := kb) (kc := kc) ⟨hB, F, hF.of_block (hup g (Nat.le_refl _)), fun i hi => ?_, hg, hd⟩
  obtain ⟨e0, e1, e2, e3, e4, e5, e6, e7, e8, e8b, G, hG, e9⟩ := hN i hi
  exact ⟨e0, e1, e2, e3, e4, e5, e6, e7, e8, e8b, G, hG.of_block (hup (kb i) (Nat.le_of_lt (hg i hi))), e9⟩

/-- The blocks of a store of the call's own. -/
def OwnX (g n : Nat) (kb : Nat → Nat) : Nat → Prop := fun b => b = g ∨ ∃ i, i < n ∧ b = kb i

theorem leave_gen (B g c : Nat) (S : List Nd) (kb kc : Nat → Nat) (ch : Nat) (w : World) (hO : Own w B g S kb kc S.length) (hch : ch < S.length) (hp : (nd S ch).p = -1 ∨ ∃ pa : Nat, pa < S.length ∧ pa ≠ ch ∧ (nd S ch).p = pa) :
    Calls Tryz.prog 106 #[.slice (some ⟨g, 0, none⟩) S.length c, .int .i64 ch] w fun e w' => e = .returned (.tuple #[]) ∧ Off (OwnX g S.length kb) w w' ∧ Own w' B g (leaveG S ch) kb kc (leaveG S ch).length := by
  rcases hp with hp | ⟨pa, hpa, hne, hp⟩
  · have hc : w.cell? ⟨g, ch * 8 + 4, none⟩ = some (.int .i64 (-1)) := by
      obtain ⟨_, F, hF, hN, _, _⟩ := hO
      obtain ⟨_, _, _, _, e4, _⟩ := hN ch hch
      rw [hF.cell (by omega), e4, hp]
    refine (leave_none g c S.length ch w hch hc).mono ?_
    rintro e w' ⟨he, hb⟩
    refine ⟨he, Off.of_below hb, ?_⟩
    unfold leaveG
    rw [if_pos hp]
    exact hO.below hb
  · refine (leave_any B g c S kb kc pa ch w hO hpa hch hne hp).mono ?_
    rintro e w' ⟨he, hoff, hO'⟩
    refine ⟨he, hoff.mono (fun k _ hk => ?_), ?_⟩
    · rcases hk with hk | hk
      · exact Or.inl hk
      · exact Or.inr ⟨pa, hpa, hk⟩
    · unfold leaveG
      rw [if_neg (by omega), hp, Int.toNat_natCast]
      exact hO'
end Go.Proofs.YtgjfmepbphfjoaaGreat

namespace Go.Proofs.YtgjfmepbphfjoaaGreat
open Go.RowKit

theorem find_low {w w1 : World} {v : Value} {x y : Int} (hb : Below (w.heap.size + 1 + 1 + 1) (((w.alloc (.cells #[v] 24)).alloc (.cells #[.int .i64 x, .int .i64 y] 39)).alloc (.cells #[.bool false, .int .i64 0, .int .i64 0, .int .i64 0, .int .i64 0, .slice none 0 0, .int .i64 0, .bool false] 47)) w1) :
    (w1.cell? ⟨w.heap.size, 0, none⟩ = some v ∧ w1.cell? ⟨w.heap.size + 1, 0, none⟩ = some (.int .i64 x) ∧ w1.cell? ⟨w.heap.size + 1, 1, none⟩ = some (.int .i64 y)) ∧
    (w1.cell? ⟨w.heap.size + 1 + 1, 0, none⟩ = some (.bool false) ∧ w1.cell? ⟨w.heap.size + 1 + 1, 1, none⟩ = some (.int .i64 0) ∧ w1.cell? ⟨w.heap.size + 1 + 1, 2, none⟩ = some (.int .i64 0) ∧ w1.cell? ⟨w.heap.size + 1 + 1, 3, none⟩ = some (.int .i64 0) ∧ w1.cell? ⟨w.heap.size + 1 + 1, 4, none⟩ = some (.int .i64 0) ∧ w1.cell? ⟨w.heap.size + 1 + 1, 5, none⟩ = some (.slice none 0 0) ∧ w1.cell? ⟨w.heap.size + 1 + 1, 6, none⟩ = some (.int .i64 0) ∧ w1.cell? ⟨w.heap.size + 1 + 1, 7, none⟩ = some (.bool false)) ∧
    (∀ o, w1.frozen? ⟨w.heap.size + 1 + 1, o, none⟩ = false) ∧ Below w.heap.size w w1 := by
  refine ⟨⟨?_, ?_, ?_⟩, ⟨?_, ?_, ?_, ?_, ?_, ?_, ?_, ?_⟩, fun o => ?_, (three_below _ _ _ _).trans (hb.mono (by omega))⟩
  all_goals first | exact (hb.cell (by first | (simp; done) | (simp; omega))).trans (by go_simp) | exact (hb.frozen (by first | (simp; done) | (simp; omega))).trans (by go_simp)

/-- What Find says is wrong. -/
def findE (S : List Nd) (p u : Int) : Int := if checkE S = 0 then holdsE S p u else checkE S

theorem find_zero {S : List Nd} {p u : Int} (h : WF S) (hh : holdsE S p u = 0) : findE S p u = 0 := by
  rw [findE, if_pos ((wf_iff S).mpr h)]
  exact hh
theorem find_parts {S : List Nd} {p u : Int} (h : findE S p u = 0) : checkE S = 0 ∧ holdsE S p u = 0 := by
  unfold findE at h
  by_cases hc : checkE S = 0
  · rw [if_pos hc] at h
    exact ⟨hc, h⟩
  · rw [if_neg hc] at h
    exact absurd h hc

set_option maxHeartbeats 1000000 in
theorem find_err (a : Option Addr) (c : Nat) (S : List Nd) (p u E : Int) (w : World) (hN : S.length ≤ 9223372036854775807) (hB : Big S) (hS : NdsAt w a S) (hE : findE S p u = E) (hE0 : E ≠ 0) :
    Calls Tryz.prog 10 #[.agg #[.slice a S.length c], .agg #[.int .i64 p, .int .i64 u]] w fun e w' => e = .returned (.tuple #[.agg #[.bool false, .int .i64 0, .int .i64 0, .int .i64 0, .int .i64 0, .slice none 0 0, .int .i64 0, .bool false], .int .i64 E]) ∧ Below w.heap.size w w' := by
  have d0 := fun W hW => check_any a c S W hN hB hW
  have d1 := fun W hW => holds_any a c S p u W hN hW
  have HS : Hid (NdsAt w a S) := hS
  have hz : (E == 0) = false := by simp [hE0]
  unfold findE at hE
  by_cases hc : checkE S = 0
  · rw [if_pos hc] at hE
    rw [hE] at d1
    rw [hc] at d0
    have D0 : Hid _ := d0
    have D1 : Hid _ := d1
    clear hS d0 d1 hE hB hc
    generalize S.length = n at *
    go_enter Tryz.func10, Tryz.ntmps10
    go_wp2_with (go_at_call 20; refine (D0.out _ (HS.out.below (three_below _ _ _ _))).mono ?_; rintro e w1 ⟨rfl, hb1⟩; simp only [World.size_alloc] at hb1; obtain ⟨⟨l0, l1, l2⟩, ⟨z0, z1, z2, z3, z4, z5, z6, z7⟩, hz', hbo⟩ := find_low hb1)
    refine (D1.out _ (HS.out.below hbo)).mono ?_
    rintro e w2 ⟨rfl, hb2⟩
    have hs1 := hb1.size
    simp only [World.size_alloc] at hs1
    have hb12 := hb1.trans (hb2.mono hs1)
    clear l0 l1 l2 z0 z1 z2 z3 z4 z5 z6 z7 hz' hbo hb1 hb2
    obtain ⟨⟨l0, l1, l2⟩, ⟨z0, z1, z2, z3, z4, z5, z6, z7⟩, hz', hbo⟩ := find_low hb12
    go_wp2
    refine bodyPost_ret (v := .tuple #[.agg #[.bool false, .int .i64 0, .int .i64 0, .int .i64 0, .int .i64 0, .slice none 0 0, .int .i64 0, .bool false], .int .i64 E]) (by simp [results, Tryz.results10, go_sem, z0, z1, z2, z3, z4, z5, z6, z7]) rfl ⟨rfl, ?_⟩
    exact (((((((hbo.setCell (by simp; omega) _).setCell (by simp; omega) _).setCell (by simp; omega) _).setCell (by simp; omega) _).setCell (by simp; omega) _).setCell (by simp; omega) _).setCell (by simp; omega) _).setCell (by simp; omega) _
  · rw [if_neg hc] at hE
    rw [hE] at d0
    have D0 : Hid _ := d0
    clear hS d0 d1 hE hB hc
    generalize S.length = n at *
    go_enter Tryz.func10, Tryz.ntmps10
    go_wp2_with (go_at_call 20; refine (D0.out _ (HS.out.below (three_below _ _ _ _))).mono ?_; rintro e w1 ⟨rfl, hb1⟩; simp only [World.size_alloc] at hb1; obtain ⟨⟨l0, l1, l2⟩, ⟨z0, z1, z2, z3, z4, z5, z6, z7⟩, hz', hbo⟩ := find_low hb1)
    refine bodyPost_ret (v := .tuple #[.agg #[.bool false, .int .i64 0, .int .i64 0, .int .i64 0, .int .i64 0, .slice none 0 0, .int .i64 0, .bool false], .int .i64 E]) (by simp [results, Tryz.results10, go_sem, z0, z1, z2, z3, z4, z5, z6, z7]) rfl ⟨rfl, ?_⟩
    exact (((((((hbo.setCell (by simp; omega) _).setCell (by simp; omega) _).setCell (by simp; omega) _).setCell (by simp; omega) _).setCell (by simp; omega) _).setCell (by simp; omega) _).setCell (by simp; omega) _).setCell (by simp; omega) _

set_option maxHeartbeats 1000000 in
theorem find_ok (a : Option Addr) (c : Nat) (S : List Nd) (k : Nat) (u : Int) (w : World) (hN : S.length ≤ 9223372036854775807) (hB : Big S) (hS : NdsAt w a S) (hk : k < S.length) (hE : findE S k u = 0) (hK : (nd S k).ks.length ≤ 1000000) :
    Calls Tryz.prog 10 #[.agg #[.slice a S.length c], .agg #[.int .i64 k, .int .i64 u]] w fun e w' => ∃ g, e = .returned (.tuple #[.agg #[.bool (nd S k).u, .int .i64 (nd S k).n, .int .i64 (nd S k).t, .int .i64 (nd S k).m, .int .i64 (nd S k).p, .slice (some ⟨g, 0, none⟩) (nd S k).ks.length (nd S k).ks.length, .int .i64 (nd S k).h, .bool (nd S k).c], .int .i64 0]) ∧ Below w.heap.size w w' ∧ IntsAt w' (some ⟨g, 0, none⟩) (nd S k).ks := by
  have d1 := fun W hW => holds_any a c S k u W hN hW
  rw [(find_parts hE).2] at d1
  have D1 : Hid _ := d1
  have d0 := fun W hW => check_any a c S W hN hB hW
  rw [(find_parts hE).1] at d0
  have D0 : Hid _ := d0
  have HS : Hid (NdsAt w a S) := hS
  have d2 := fun ka kc W hW => copyNode_any (nd S k) ka kc W hK hW
  have D2 : Hid _ := d2
  have NX : Hid (∀ w1, Below w.heap.size w w1 → ∃ b o, a = some ⟨b, o, none⟩ ∧ NdAt w1 b (o + k * 8) (nd S k)) := fun w1 h1 => (hS.below h1) k hk
  have hk2 : (k : Int) < (S.length : Int) := by omega
  have IR : Hid (∀ (W : World) g, W.rowIs g 3 (nd S k).ks.length (fun j => .int .i64 ((nd S k).ks.getD j 0)) → IntsAt W (some ⟨g, 0, none⟩) (nd S k).ks) := fun W g h => ints_of_row h (Nat.le_refl _) (fun _ _ => rfl)
  clear hS d0 d1 d2 hE hK hB
  generalize nd S k = x at *
  obtain ⟨xu, xn, xt, xm, xp, xks, xh, xc⟩ := x
  unfold NdAt at NX
  dsimp only at *
  generalize hL : xks.length = L at *
  have HL : Hid _ := hL
  clear hL
  generalize S.length = n at *
  go_enter Tryz.func10, Tryz.ntmps10
  go_wp2_with (go_at_call 20; refine (D0.out _ (HS.out.below (three_below _ _ _ _))).mono ?_; rintro e w0 ⟨rfl, hb0⟩; simp only [World.size_alloc] at hb0; obtain ⟨⟨l0, l1, l2⟩, ⟨z0, z1, z2, z3, z4, z5, z6, z7⟩, hz', hbo0⟩ := find_low hb0)
  refine (D1.out _ (HS.out.below hbo0)).mono ?_
  rintro e w1 ⟨rfl, hb1'⟩
  have hs0 := hb0.size
  simp only [World.size_alloc] at hs0
  have hb1 := hb0.trans (hb1'.mono hs0)
  clear l0 l1 l2 z0 z1 z2 z3 z4 z5 z6 z7 hz' hbo0 hb0 hb1'
  obtain ⟨⟨l0, l1, l2⟩, ⟨z0, z1, z2, z3, z4, z5, z6, z7⟩, hz', hbo⟩ := find_low hb1
  obtain ⟨b, o, rfl, c0, c1, c2, c3, c4, ⟨ka, kc, c5, hks⟩, c6, c7⟩ := NX.out _ hbo
  have HKS : Hid _ := hks
  have HB1 : Hid _ := hb1
  clear hks hb1 hbo
  go_wp2_with fail
  refine (D2.out ka kc _ HKS.out).mono ?_
  rintro e w2 ⟨g, rfl, hb2, hg, hrow⟩
  have hs1 := HB1.out.size
  simp only [World.size_alloc] at hs1
  have hb12 := HB1.out.trans (hb2.mono hs1)
  clear l0 l1 l2 z0 z1 z2 z3 z4 z5 z6 z7 hz' c0 c1 c2 c3 c4 c5 c6 c7
  obtain ⟨⟨l0, l1, l2⟩, ⟨z0, z1, z2, z3, z4, z5, z6, z7⟩, hz', hbo⟩ := find_low hb12
  have HBO : Hid _ := hbo
  have HR : Hid (w2.rowIs g 3 L (fun j => .int .i64 (xks.getD j 0))) := hrow
  clear hb2 hb12 hbo hrow
  go_wp2
  refine bodyPost_ret (v := .tuple #[.agg #[.bool xu, .int .i64 xn, .int .i64 xt, .int .i64 xm, .int .i64 xp, .slice (some ⟨g, 0, none⟩) L L, .int .i64 xh, .bool xc], .int .i64 0]) (by simp [results, Tryz.results10, go_sem, z0, z1, z2, z3, z4, z5, z6, z7]) rfl ⟨g, rfl, ?_, ?_⟩
  · exact (((((((HBO.out.setCell (by simp; omega) _).setCell (by simp; omega) _).setCell (by simp; omega) _).setCell (by simp; omega) _).setCell (by simp; omega) _).setCell (by simp; omega) _).setCell (by simp; omega) _).setCell (by simp; omega) _
  · refine IR.out _ g ?_
    exact (((((((HR.out.setOther (by simp; omega) _).setOther (by simp; omega) _).setOther (by simp; omega) _).setOther (by simp; omega) _).setOther (by simp; omega) _).setOther (by simp; omega) _).setOther (by simp; omega) _).setOther (by simp; omega) _

end Go.Proofs.YtgjfmepbphfjoaaGreat

namespace Go.Proofs.YtgjfmepbphfjoaaGreat
open Go.RowKit

/-- What the law asks of the order, without the program. -/
structure OrderFacts (S : List Nd) (k : Nat) (l : List Int) : Prop where
  pos : 0 < l.length
  small : l.length ≤ 24
  head : l.getD 0 0 = k
  each : ∀ i, i < l.length → ∃ q : Nat, l.getD i 0 = q ∧ q < S.length ∧ (nd S q).u = true ∧ (q : Int) ∉ l.take i ∧ (0 < i → (nd S q).p ∈ l.take i)
  closed : ∀ q : Nat, q < S.length → 0 ≤ (nd S q).p → q ≠ k → decide ((nd S q).p ∈ l) = decide ((q : Int) ∈ l)

theorem hands_single (S : List Nd) (p u : Int) : handsE S [(p, u)] = holdsE S p u := by
  simp only [handsE]
  by_cases h : holdsE S p u = 0
  · rw [if_pos h, h]
  · rw [if_neg h]

theorem holds_zero {S : List Nd} {p u : Int} (h : holdsE S p u = 0) : ∃ k : Nat, p = k ∧ k < S.length ∧ (nd S k).u = true ∧ (nd S k).n = u := by
  unfold holdsE at h
  by_cases hp : isPl S.length p = true
  · rw [if_pos hp] at h
    have hp' : 0 ≤ p ∧ p ≤ (S.length : Int) - 1 := of_decide_eq_true hp
    obtain ⟨k, rfl⟩ : ∃ k : Nat, p = (k : Int) := ⟨p.toNat, by omega⟩
    rw [Int.toNat_natCast] at h
    refine ⟨k, rfl, by omega, ?_⟩
    unfold holdX at h
    split at h
    · split at h
      · split at h
        · exact ⟨by assumption, by assumption⟩
        · omega
      · omega
    · omega
  · rw [if_neg hp] at h
    omega

theorem tcheck_one {S : List Nd} {p u : Int} (h : tcheckE S [(p, u)] = 0) : WF S ∧ ∃ k : Nat, p = k ∧ k < S.length ∧ (nd S k).u = true ∧ (nd S k).n = u := by
  unfold tcheckE at h
  by_cases hc : checkE S = 0
  · rw [if_pos hc, hands_single] at h
    exact ⟨(wf_iff S).1 hc, holds_zero h⟩
  · rw [if_neg hc] at h
    exact absurd h hc

theorem orderFacts {S : List Nd} (h : WF S) {k : Nat} (hk : k < S.length) (hu : (nd S k).u = true) : OrderFacts S k (orderS S k) := by
  have hD := h.deep_all hk
  have hn := nodup_order h hk (Nat.le_refl _) hD
  have hl := order_le h hk
  obtain ⟨r, hr, hP⟩ := par_root h hk hD
  have hmem : ∀ x ∈ orderS S k, ∃ q : Nat, x = q ∧ q < S.length ∧ (nd S q).u = true := fun x hx => by
    obtain ⟨q, e, hq, hu', _⟩ := mem_order h hk hD x hx
    refine ⟨q, e, hq, ?_⟩
    rcases hu' with rfl | hu'
    · exact hu
    · exact hu'
  have hpar : ∀ i, i < (orderS S k).length → 0 < i → (nd S ((orderS S k).getD i 0).toNat).p ∈ (orderS S k).take i := fun i hi h0 => by
    unfold orderS at hi ⊢
    rw [hr] at hi ⊢
    obtain ⟨i, rfl⟩ : ∃ j, i = j + 1 := ⟨i - 1, by omega⟩
    have := hP.get (i := i) (by simpa using hi)
    simpa using this
  refine ⟨by unfold orderS; rw [hr]; simp, by unfold orderS; have := h.small; omega, by unfold orderS; rw [hr]; simp, fun i hi => ?_, fun q hq hp hne => ?_⟩
  · obtain ⟨q, e, hq, hu'⟩ := hmem ((orderS S k).getD i 0) (by rw [getD_elem _ 0 hi]; exact List.getElem_mem hi)
    refine ⟨q, e, hq, hu', fun hm => ?_, fun h0 => ?_⟩
    · obtain ⟨j, hj, ej⟩ := List.getElem_of_mem hm
      rw [List.length_take] at hj
      rw [List.getElem_take] at ej
      rw [getD_elem _ 0 hi] at e
      have hjl : j < (orderS S k).length := by omega
      have := (List.getElem?_inj (i := j) (j := i) hjl hn).1 (by show (orderS S k)[j]? = (orderS S k)[i]?; rw [List.getElem?_eq_getElem (by omega), List.getElem?_eq_getElem hi]; exact congrArg some (ej.trans e.symm))
      omega
    · have := hpar i hi h0
      rwa [e, Int.toNat_natCast] at this
  · obtain ⟨y, hy⟩ : ∃ y : Nat, (nd S q).p = (y : Int) := ⟨(nd S q).p.toNat, by omega⟩
    rw [hy]
    by_cases hm : (y : Int) ∈ orderS S k
    · have := kid_in h hk hD (y : Int) hm (q : Int) (by rw [Int.toNat_natCast]; exact (h.in_kids hq hy).2)
      rw [decide_eq_true hm, decide_eq_true (show (q : Int) ∈ orderS S k from this)]
    · have : (q : Int) ∉ orderS S k := fun hq' => by
        obtain ⟨i, hi, ei⟩ := List.getElem_of_mem hq'
        have h0 : 0 < i := by
          rcases Nat.eq_zero_or_pos i with rfl | h0
          · exfalso
            have : (orderS S k).getD 0 0 = (k : Int) := by unfold orderS; rw [hr]; simp
            rw [getD_elem _ 0 hi, ei] at this
            omega
          · exact h0
        have := hpar i hi h0
        rw [getD_elem _ 0 hi, ei, Int.toNat_natCast, hy] at this
        exact hm (List.mem_of_mem_take this)
      rw [decide_eq_false hm, decide_eq_false this]

end Go.Proofs.YtgjfmepbphfjoaaGreat
