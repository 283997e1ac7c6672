/-
  slices.DeleteFunc at []int, in a row of the call's own, over any closure that tells yes or no.
-/
import Derived.Test.YtjlapfgghljidabUTgThTiTj
import Derived.Shelf.SlicesE.DeleteFunc
namespace Go.Proofs.Ytjlapfgghljidab
open Go.RowKit

/-- What is asked of a function value that tells yes or no of a number: in every world in which all that lay in w, but in the blocks of X, lies unturned, it answers p, and turns nothing. -/
def TellsOff (X : Nat → Prop) (K : Nat) (caps : Array Value) (p : Int → Bool) (w : World) : Prop :=
  ∀ (x : Int) (w1 : World), Off X w w1 → Calls Try.prog K (#[.int .i64 x] ++ caps) w1 fun e w2 => e = .returned (.bool (p x)) ∧ Below w1.heap.size w1 w2

def flt (p : Int → Bool) (ks : List Int) : List Int := ks.filter fun x => !p x

theorem flt_succ (p : Int → Bool) (ks : List Int) (j : Nat) (h : j < ks.length) : flt p (ks.take (j + 1)) = flt p (ks.take j) ++ (if p (ks.getD j 0) then [] else [ks.getD j 0]) := by
  unfold flt
  rw [List.take_succ_eq_append_getElem h, List.filter_append, getD_elem ks 0 h]
  cases hp : p ks[j] <;> simp [hp]
theorem flt_all (p : Int → Bool) (ks : List Int) (h : ∀ i, i < ks.length → p (ks.getD i 0) = false) : flt p ks = ks := by
  unfold flt
  rw [List.filter_eq_self]
  intro x hx
  obtain ⟨i, hi, rfl⟩ := List.getElem_of_mem hx
  have := h i hi
  rw [getD_elem ks 0 hi] at this
  simp [this]
theorem flt_le (p : Int → Bool) (ks : List Int) : (flt p ks).length ≤ ks.length := List.length_filter_le _ _

def Deleted (w : World) (kb cap : Nat) (l : List Int) (e : Ending) (w' : World) : Prop :=
  e = .returned (.slice (some ⟨kb, 0, none⟩) l.length cap) ∧ Off (fun b => b = kb) w w' ∧ ∃ G, w'.rowIs kb 3 cap G ∧ ∀ j, j < l.length → G j = .int .i64 (l.getD j 0)

set_option maxHeartbeats 2000000 in
theorem deleteFunc_any (K : Nat) (caps : Array Value) (p : Int → Bool) (kb L cap : Nat) (ks : List Int) (G : Nat → Value) (w : World) (hL : ks.length = L) (hc : L ≤ cap) (hsm : cap ≤ 1000000000) (hG : w.rowIs kb 3 cap G) (hGk : ∀ j, j < L → G j = .int .i64 (ks.getD j 0))
    (eg : ∀ args w, (callFunc K args).run Try.prog w = .ok (.enter K args) w) (hT : TellsOff (fun b => b = kb) K caps p w) :
    Calls Try.prog 72 #[.slice (some ⟨kb, 0, none⟩) L cap, .func (.func K) #[] caps] w (Deleted w kb cap (flt p ks)) := by
  have di := indexFunc_any K caps p (some ⟨kb, 0, none⟩) cap ks w (by omega) (ints_of_row hG (by omega) (by rw [hL]; exact hGk)) eg (fun x w1 hb => hT x w1 (Off.of_below hb))
  rw [hL] at di
  have HG : Hid (w.rowIs kb 3 cap G) := hG
  have HGk : Hid _ := hGk
  have HT : Hid (TellsOff (fun b => b = kb) K caps p w) := hT
  have HL : Hid _ := hL
  have hkb := hG.lt
  clear hG hGk hT hL
  go_enter Try.func72, Try.ntmps72
  go_wp2_with fail
  refine di.mono ?_
  rintro e w1 ⟨r, rfl, hb1, hr⟩
  clear di
  rcases hr with ⟨rfl, hall⟩ | ⟨k, hk, rfl, hp, hf⟩
  · have hfl := flt_all p ks (by rw [HL.out]; exact hall)
    have E : Hid _ := hfl
    clear hall hfl
    go_wp2
    go_ret
    refine ⟨by rw [E.out, HL.out]; rfl, Off.of_below hb1, G, HG.out.of_block (hb1.block kb hkb), fun j hj => ?_⟩
    rw [E.out] at hj ⊢
    exact HGk.out j (by rw [← HL.out]; exact hj)
  · have hk1 : ((k : Int) == -1) = false := beq_eq_false_iff_ne.2 (by omega)
    have F0 : Hid (flt p (ks.take (k + 1)) = ks.take k) := by
      show _ = _
      rw [flt_succ p ks k (by rw [HL.out]; exact hk), hp, if_pos rfl, List.append_nil]
      refine flt_all p _ (fun i hi => ?_)
      rw [List.length_take] at hi
      have hks := HL.out
      have h1 := hf i (by omega)
      rw [getD_elem ks 0 (by omega)] at h1
      rw [getD_elem (ks.take k) 0 (by rw [List.length_take]; omega), List.getElem_take]
      exact h1
    have HR0 : Hid (w1.rowIs kb 3 cap G) := HG.out.of_block (hb1.block kb hkb)
    have FI : Hid (∀ t, t < k → G t = .int .i64 ((flt p (ks.take (k + 1))).getD t 0)) := fun t ht => by
      have hks := HL.out
      rw [F0.out, HGk.out t (by omega), getD_elem ks 0 (by omega), getD_elem (ks.take k) 0 (by rw [List.length_take]; omega), List.getElem_take]
    have FL : Hid ((flt p (ks.take (k + 1))).length = k) := by
      have hks := HL.out
      show _ = _
      rw [F0.out, List.length_take]; omega
    have O1 : Hid (Off (fun b => b = kb) w w1) := Off.of_below hb1
    clear hp hf hb1
    go_wp2
    go_loopg [5, 6] L (fun g1 s5 s6 wr => ∃ (i j : Nat) (G2 : Nat → Value), i < j ∧ j ≤ L ∧ L - j ≤ g1 ∧ s5 = .int .i64 i ∧ s6 = .int .i64 j ∧ Hid (Off (fun b => b = kb) w wr) ∧ Hid (wr.rowIs kb 3 cap G2) ∧ Hid ((flt p (ks.take j)).length = i) ∧ Hid (∀ t, t < i → G2 t = .int .i64 ((flt p (ks.take j)).getD t 0)) ∧ Hid (∀ t, j ≤ t → t < L → G2 t = .int .i64 (ks.getD t 0)))
    case atStart => exact ⟨k, k + 1, G, by omega, by omega, by omega, rfl, by go_num, O1, HR0, FL, FI, (show Hid _ from fun t _ ht => HGk.out t ht)⟩
    case round =>
      clear HR0 FI FL O1
      obtain ⟨i, j, G2, hij, hjL, hg1, rfl, rfl, O2, R2, L2, I2, J2⟩ := hrel
      have hkw : kb < wr.heap.size := R2.out.lt
      have hfz := R2.out.frozen
      by_cases hlt : j < L
      · have hlt2 : (j : Int) < (L : Int) := by omega
        have cj := R2.out.cell (i := j) (by omega)
        rw [J2.out j (Nat.le_refl _) hlt] at cj
        have ci := R2.out.cell (i := i) (by omega)
        have hcall := HT.out (ks.getD j 0) wr O2.out
        have FS := flt_succ p ks j (by rw [HL.out]; exact hlt)
        generalize hy : ks.getD j 0 = y at *
        have HY : Hid _ := hy
        clear hy
        cases hq : p y with
        | true =>
          rw [hq] at hcall FS
          rw [if_pos rfl, List.append_nil] at FS
          have HFS : Hid _ := FS
          clear FS
          go_wp2_with (go_at_fn K; refine hcall.mono ?_; rintro e w2 ⟨rfl, hb2⟩)
          go_roundg (L - (j + 1))
          case measure => omega
          case rel => exact ⟨i, j + 1, G2, by omega, by omega, by omega, rfl, by go_num, O2.out.trans (Off.of_below hb2), R2.out.of_block (hb2.block kb hkw), (show _ = _ by rw [HFS.out]; exact L2.out), (show Hid _ from fun t ht => by rw [HFS.out]; exact I2.out t ht), (show Hid _ from fun t h1 h2 => J2.out t (by omega) h2)⟩
        | false =>
          rw [hq] at hcall FS
          rw [if_neg (by simp)] at FS
          have HFS : Hid _ := FS
          clear FS
          go_wp2_with (go_at_fn K; refine hcall.mono ?_; rintro e w2 ⟨rfl, hb2⟩; have ci2 := (hb2.cell (by exact hkw)).trans ci; have hfz2 := fun o => (hb2.frozen (by exact hkw)).trans (hfz o))
          go_roundg (L - (j + 1))
          case measure => omega
          case rel =>
            refine ⟨i + 1, j + 1, _, by omega, by omega, by omega, by go_num, by go_num, (O2.out.trans (Off.of_below hb2)).trans (off_setCell (X := fun b => b = kb) _ rfl _), (R2.out.of_block (hb2.block kb hkw)).set i (.int .i64 y), (show _ = _ by rw [HFS.out, List.length_append, L2.out]; rfl), (show Hid _ from fun t ht => ?_), (show Hid _ from fun t h1 h2 => ?_)⟩
            · rw [HFS.out]
              by_cases e : t = i
              · subst e
                rw [if_pos rfl]
                simp [List.getD, L2.out]
              · rw [if_neg e, I2.out t (by omega)]
                simp [List.getD, List.getElem?_append, L2.out, show t < i by omega]
            · rw [if_neg (by omega)]
              exact J2.out t (by omega) h2
      · have hjL2 : j = L := by omega
        subst hjL2
        have hic : (i : Int) ≤ (cap : Int) := by omega
        have hiL : (i : Int) ≤ (j : Int) := by omega
        have EF : Hid (flt p (ks.take j) = flt p ks) := by
          show _ = _
          rw [← HL.out, List.take_length]
        have hcl : ∀ ty, (Builtin.clear_ #[27] ty #[.slice (some ⟨kb, i, none⟩) (j - i) (cap - i)]).run Try.prog wr = .ok (.tuple #[]) (wr.setCells kb i (List.replicate (j - i) (.int .i64 0))) := fun ty => Lib.run_clear_slice wr 27 3 ty (.int .i64 0) Try.underlying27 Try.zeroValue3 rfl rfl kb i (j - i) (cap - i) (by omega) (fun t ht => by rw [R2.out.cell (by omega)]; rfl) (fun t ht => hfz _)
        go_wp2
        go_ret
        refine ⟨?_, O2.out.trans (off_setCells (X := fun b => b = kb) rfl _ _ _), _, row_setCells _ _ _ _ R2.out, fun t ht => ?_⟩
        · rw [← EF.out, L2.out]; rfl
        · rw [← EF.out, L2.out] at ht
          rw [if_neg (by omega), I2.out t ht, EF.out]
end Go.Proofs.Ytjlapfgghljidab

namespace Go.Proofs.Ytjlapfgghljidab
open Go.RowKit

theorem one_more' {w1 : World} {p : Addr} {v : Value} (h : w1.cell? p = some v) (o1 : Obj) : (w1.alloc o1).cell? p = some v :=
  (((Below.refl _ _).alloc (Nat.le_refl _) o1).cell (World.block_lt_of_cell? _ _ h)).trans h

set_option maxHeartbeats 400000 in
theorem leaveTells_any (x c : Int) (b : Nat) (w : World) (hc : w.cell? ⟨b, 0, none⟩ = some (.int .i64 c)) :
    Calls Try.prog 93 #[.int .i64 x, .pointer (some ⟨b, 0, none⟩)] w fun e w' => e = .returned (.bool (decide (x = c))) ∧ w' = w := by
  by_cases h : x = c
  · subst h
    go_enter Try.func93, Try.ntmps93
    go_wp2
    go_ret
    exact ⟨by simp, rfl⟩
  · have hd : decide (x = c) = false := decide_eq_false h
    have hq : (x == c) = false := beq_eq_false_iff_ne.2 h
    rw [hd]
    go_enter Try.func93, Try.ntmps93
    go_wp2
    go_ret
    refine ⟨?_, rfl⟩
    first
      | rfl
      | simp [hq]

def leaveNd (S : List Nd) (pa ch : Nat) (j : Nat) : Nd :=
  if j = ch then ⟨(nd S ch).u, (nd S ch).n, (nd S ch).t, (nd S ch).m, -1, (nd S ch).ks, (nd S ch).h, (nd S ch).c⟩
  else if j = pa then ⟨(nd S pa).u, (nd S pa).n, (nd S pa).t, (nd S pa).m, (nd S pa).p, flt (fun x => decide (x = (ch : Int))) (nd S pa).ks, (nd S pa).h, (nd S pa).c⟩
  else nd S j

/-- The store with ch no more among pa's children. -/
def leaveS (S : List Nd) (pa ch : Nat) : List Nd := (List.range S.length).map (leaveNd S pa ch)

theorem leaveS_length (S : List Nd) (pa ch : Nat) : (leaveS S pa ch).length = S.length := by simp [leaveS]
theorem nd_leaveS (S : List Nd) (pa ch j : Nat) (hj : j < S.length) : nd (leaveS S pa ch) j = leaveNd S pa ch j := by
  rw [nd_elem (by rw [leaveS_length]; exact hj)]
  simp [leaveS]

theorem leave_after {w w2 : World} {B g : Nat} {S : List Nd} {kb kc : Nat → Nat} (hO : Own w B g S kb kc S.length) {W : World} (hb : Below w.heap.size w W) {pa ch : Nat} (hpa : pa < S.length) (hch : ch < S.length) (hne : pa ≠ ch)
    (hoff : Off (fun b => b = kb pa) W w2) {G : Nat → Value} (hG : w2.rowIs (kb pa) 3 (kc pa) G) (hGk : ∀ j, j < (flt (fun x => decide (x = (ch : Int))) (nd S pa).ks).length → G j = .int .i64 ((flt (fun x => decide (x = (ch : Int))) (nd S pa).ks).getD j 0)) :
    Own ((w2.setCell ⟨g, pa * 8 + 5, none⟩ (.slice (some ⟨kb pa, 0, none⟩) (flt (fun x => decide (x = (ch : Int))) (nd S pa).ks).length (kc pa))).setCell ⟨g, ch * 8 + 4, none⟩ (.int .i64 (-1))) B g (leaveS S pa ch) kb kc (leaveS S pa ch).length := by
  obtain ⟨hB, F, hF, hN, hg, hd⟩ := hO
  have hgl := hF.lt
  have hW : ∀ b, b < w.heap.size → b ≠ kb pa → w2.heap[b]? = w.heap[b]? := fun b h1 h2 => (hoff.block b (Nat.lt_of_lt_of_le h1 hb.size) h2).trans (hb.block b h1)
  have hgk : g ≠ kb pa := by have := hg pa hpa; omega
  have hF2 := (((hF.of_block (hW g hgl hgk)).set (pa * 8 + 5) (.slice (some ⟨kb pa, 0, none⟩) (flt (fun x => decide (x = (ch : Int))) (nd S pa).ks).length (kc pa))).set (ch * 8 + 4) (.int .i64 (-1)))
  rw [leaveS_length]
  refine ⟨hB, _, by rw [leaveS_length]; exact hF2, fun j hj => ?_, hg, hd⟩
  rw [nd_leaveS S pa ch j hj]
  obtain ⟨e0, e1, e2, e3, e4, e5, e6, e7, e8, e8b, G0, hG0, e9⟩ := hN j hj
  unfold leaveNd
  by_cases h1 : j = ch
  · subst h1
    rw [if_pos rfl]
    have hr := ((hG0.of_block (hW (kb j) hG0.lt (fun e => hne (hd pa hpa j hj e.symm)))).setOther (a := ⟨g, pa * 8 + 5, none⟩) (by have := hg j hj; simp; omega) (.slice (some ⟨kb pa, 0, none⟩) (flt (fun x => decide (x = (j : Int))) (nd S pa).ks).length (kc pa))).setOther (a := ⟨g, j * 8 + 4, none⟩) (by have := hg j hj; simp; omega) (.int .i64 (-1))
    refine ⟨?_, ?_, ?_, ?_, ?_, ?_, ?_, ?_, e8, e8b, G0, hr, e9⟩
    all_goals dsimp only
    · rw [if_neg (by omega), if_neg (by omega), e0]
    · rw [if_neg (by omega), if_neg (by omega), e1]
    · rw [if_neg (by omega), if_neg (by omega), e2]
    · rw [if_neg (by omega), if_neg (by omega), e3]
    · rw [if_pos rfl]
    · rw [if_neg (by omega), if_neg (by omega), e5]
    · rw [if_neg (by omega), if_neg (by omega), e6]
    · rw [if_neg (by omega), if_neg (by omega), e7]
  · rw [if_neg h1]
    by_cases h2 : j = pa
    · subst h2
      rw [if_pos rfl]
      have hr := (hG.setOther (a := ⟨g, j * 8 + 5, none⟩) (by simp; omega) (.slice (some ⟨kb j, 0, none⟩) (flt (fun x => decide (x = (ch : Int))) (nd S j).ks).length (kc j))).setOther (a := ⟨g, ch * 8 + 4, none⟩) (by simp; omega) (.int .i64 (-1))
      refine ⟨?_, ?_, ?_, ?_, ?_, ?_, ?_, ?_, Nat.le_trans (flt_le _ _) e8, e8b, G, hr, hGk⟩
      all_goals dsimp only
      · rw [if_neg (by omega), if_neg (by omega), e0]
      · rw [if_neg (by omega), if_neg (by omega), e1]
      · rw [if_neg (by omega), if_neg (by omega), e2]
      · rw [if_neg (by omega), if_neg (by omega), e3]
      · rw [if_neg (by omega), if_neg (by omega), e4]
      · rw [if_neg (by omega), if_pos rfl]
      · rw [if_neg (by omega), if_neg (by omega), e6]
      · rw [if_neg (by omega), if_neg (by omega), e7]
    · rw [if_neg h2]
      have hr := ((hG0.of_block (hW (kb j) hG0.lt (fun e => h2 (hd j hj pa hpa e)))).setOther (a := ⟨g, pa * 8 + 5, none⟩) (by have := hg j hj; simp; omega) (.slice (some ⟨kb pa, 0, none⟩) (flt (fun x => decide (x = (ch : Int))) (nd S pa).ks).length (kc pa))).setOther (a := ⟨g, ch * 8 + 4, none⟩) (by have := hg j hj; simp; omega) (.int .i64 (-1))
      refine ⟨?_, ?_, ?_, ?_, ?_, ?_, ?_, ?_, e8, e8b, G0, hr, e9⟩
      all_goals
        dsimp only
        rw [if_neg (by omega), if_neg (by omega)]
        assumption

set_option maxHeartbeats 1000000 in
theorem leave_any (B g c : Nat) (S : List Nd) (kb kc : Nat → Nat) (pa ch : Nat) (w : World) (hO : Own w B g S kb kc S.length) (hpa : pa < S.length) (hch : ch < S.length) (hne : pa ≠ ch) (hp : (nd S ch).p = pa) :
    Calls Try.prog 69 #[.slice (some ⟨g, 0, none⟩) S.length c, .int .i64 ch] w fun e w' => e = .returned (.tuple #[]) ∧ Off (fun b => b = g ∨ b = kb pa) w w' ∧ Own w' B g (leaveS S pa ch) kb kc (leaveS S pa ch).length := by
  have AF : Hid (∀ (W w2 : World) (G' : Nat → Value), Below w.heap.size w W → Off (fun b => b = kb pa) W w2 → w2.rowIs (kb pa) 3 (kc pa) G' → (∀ j, j < (flt (fun x => decide (x = (ch : Int))) (nd S pa).ks).length → G' j = .int .i64 ((flt (fun x => decide (x = (ch : Int))) (nd S pa).ks).getD j 0)) → Own ((w2.setCell ⟨g, pa * 8 + 5, none⟩ (.slice (some ⟨kb pa, 0, none⟩) (flt (fun x => decide (x = (ch : Int))) (nd S pa).ks).length (kc pa))).setCell ⟨g, ch * 8 + 4, none⟩ (.int .i64 (-1))) B g (leaveS S pa ch) kb kc (leaveS S pa ch).length) := fun W w2 G' h1 h2 h3 h4 => leave_after hO h1 hpa hch hne h2 h3 h4
  obtain ⟨hB, F, hF, hNd, hg, hd⟩ := hO
  obtain ⟨e0, e1, e2, e3, e4, e5, e6, e7, e8, e8b, G, hG, e9⟩ := hNd pa hpa
  obtain ⟨f0, f1, f2, f3, f4, f5, f6, f7, f8, f8b, G2, hG2, f9⟩ := hNd ch hch
  have hgl := hF.lt
  have hfz := hF.frozen
  have q5 : w.cell? ⟨g, pa * 8 + 5, none⟩ = some (.slice (some ⟨kb pa, 0, none⟩) (nd S pa).ks.length (kc pa)) := by rw [hF.cell (by omega), e5]
  have q4 : w.cell? ⟨g, ch * 8 + 4, none⟩ = some (.int .i64 (pa : Int)) := by rw [hF.cell (by omega), f4, hp]
  have hkl := hG.lt
  have hkg := hg pa hpa
  have dd : Hid (∀ (W : World), Below w.heap.size w W → W.cell? ⟨w.heap.size, 0, none⟩ = some (.int .i64 (ch : Int)) → Calls Try.prog 72 #[.slice (some ⟨kb pa, 0, none⟩) (nd S pa).ks.length (kc pa), .func (.func 93) #[] #[.pointer (some ⟨w.heap.size, 0, none⟩)]] W (Deleted W (kb pa) (kc pa) (flt (fun x => decide (x = (ch : Int))) (nd S pa).ks))) := fun W hW hcell =>
    deleteFunc_any 93 #[.pointer (some ⟨w.heap.size, 0, none⟩)] (fun x => decide (x = (ch : Int))) (kb pa) (nd S pa).ks.length (kc pa) (nd S pa).ks G W rfl e8 (by omega) (hG.of_block (hW.block _ hG.lt)) e9 (enters_of Try.func93 (by kernel_rfl) rfl)
      (fun x w1 hoff => (leaveTells_any x (ch : Int) w.heap.size w1 ((hoff.cell (World.block_lt_of_cell? _ _ hcell) (by show ¬ (w.heap.size = kb pa); omega)).trans hcell)).mono (fun e w3 h => ⟨h.1, by rw [h.2]; exact Below.refl _ _⟩))
  have hpa2 : (pa : Int) < (S.length : Int) := by omega
  have hch2 : (ch : Int) < (S.length : Int) := by omega
  have hpn : ((pa : Int) == -1) = false := beq_eq_false_iff_ne.2 (by omega)
  clear e0 e1 e2 e3 e4 e5 e6 e7 e8 e8b hG e9 f0 f1 f2 f3 f4 f5 f6 f7 f8 f8b hG2 f9 hF hNd hd hg hp
  generalize (nd S pa).ks.length = L at *
  generalize S.length = n at *
  have Q5 := one_more' q5
  have Q4 := one_more' q4
  have HFR : Hid (∀ w2 o1, Off (fun b => b = kb pa) (w.alloc o1) w2 → w2.cell? ⟨g, pa * 8 + 5, none⟩ = some (.slice (some ⟨kb pa, 0, none⟩) L (kc pa)) ∧ (∀ v, (w2.setCell ⟨g, pa * 8 + 5, none⟩ v).cell? ⟨g, ch * 8 + 4, none⟩ = some (.int .i64 (pa : Int))) ∧ (∀ o, w2.frozen? ⟨g, o, none⟩ = false)) := fun w2 o1 h2 => by
    have hal := (Below.refl _ w).alloc (Nat.le_refl _) o1
    refine ⟨?_, fun v => ?_, fun o => ?_⟩
    · exact ((h2.cell (by simp; omega) (by simp; omega)).trans (hal.cell (by exact hgl))).trans q5
    · rw [World.cell?_setCell_other _ _ _ _ (by simp)]
      exact ((h2.cell (by simp; omega) (by simp; omega)).trans (hal.cell (by exact hgl))).trans q4
    · exact ((h2.frozen (by simp; omega) (by simp; omega)).trans (hal.frozen (by exact hgl))).trans (hfz o)
  go_enter Try.func69, Try.ntmps69
  go_wp2_with (go_at_call 72; refine (dd.out _ ((Below.refl _ _).alloc (Nat.le_refl _) _) (by go_simp)).mono ?_; rintro e w2 ⟨rfl, hoff, G', hG', hGk'⟩; obtain ⟨s5, s4, sf⟩ := HFR.out w2 _ hoff; have hbox : w2.cell? ⟨w.heap.size, 0, none⟩ = some (.int .i64 (ch : Int)) := (hoff.cell (by simp) (by show ¬ (w.heap.size = kb pa); omega)).trans (by go_simp); have HG' : Hid _ := hG'; have HGk : Hid _ := hGk'; have HOFF : Hid _ := hoff; clear hG' hGk' hoff)
  refine bodyPost_end (v := .tuple #[]) (by simp [results, Try.results69, go_sem]) rfl ⟨rfl, ?_, AF.out _ _ _ ((Below.refl _ _).alloc (Nat.le_refl _) _) HOFF.out HG'.out HGk.out⟩
  have h1 : Off (fun b => b = g ∨ b = kb pa) w w2 := (Off.of_below ((Below.refl _ _).alloc (Nat.le_refl _) _)).trans (HOFF.out.mono (fun k _ h => Or.inr h))
  exact (h1.trans (off_setCell _ (Or.inl rfl) _)).trans (off_setCell _ (Or.inl rfl) _)
end Go.Proofs.Ytjlapfgghljidab
