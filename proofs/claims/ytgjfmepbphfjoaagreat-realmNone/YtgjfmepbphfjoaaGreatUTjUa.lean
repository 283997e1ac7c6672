/-
  The contract of enter: the walk. And of leave, of a node that has no Parent.
-/
import Derived.Test.YtgjfmepbphfjoaaGreatUTgThTi
import Derived.Shelf.SlicesE.DeleteFunc
namespace Go.Proofs.YtgjfmepbphfjoaaGreat
open Go.RowKit

theorem off_setCell {X : Nat → Prop} {a : Addr} (w : World) (hX : X a.block) (v : Value) : Off X w (w.setCell a v) :=
  ⟨rfl, rfl, rfl, by simp, fun k _ hx => Below.heap_setCell w a v k (fun e => hx (by rw [e]; exact hX))⟩

theorem Off.frozen {X : Nat → Prop} {w w' : World} (h : Off X w w') {p : Addr} (hp : p.block < w.heap.size) (hx : ¬ X p.block) : w'.frozen? p = w.frozen? p := by
  unfold World.frozen?
  rw [h.block _ hp hx]

set_option maxHeartbeats 1000000 in
theorem leave_none (g c N ch : Nat) (w : World) (hch : ch < N) (hp : w.cell? ⟨g, ch * 8 + 4, none⟩ = some (.int .i64 (-1))) :
    Calls Tryz.prog 106 #[.slice (some ⟨g, 0, none⟩) N c, .int .i64 ch] w fun e w' => e = .returned (.tuple #[]) ∧ Below w.heap.size w w' := by
  have hch2 : (ch : Int) < (N : Int) := by omega
  have hgw := World.block_lt_of_cell? _ _ hp
  go_enter Tryz.func106, Tryz.ntmps106
  go_wp2
  exact bodyPost_ret (v := .tuple #[]) (by simp [results, Tryz.results106, go_sem]) rfl ⟨rfl, (Below.refl _ _).alloc (Nat.le_refl _) _⟩

set_option maxHeartbeats 2000000 in
theorem enter_any (B g c : Nat) (S : List Nd) (kb kc : Nat → Nat) (pa ch at' : Nat) (ha : Option Addr) (hc : Nat) (hs : List (Int × Int)) (w : World) (hO : Own w B g S kb kc S.length) (hpa : pa < S.length) (hch : ch < S.length) (hne : pa ≠ ch) (hs1 : hs.length ≤ 1) (hH : HandsAt w ha hs) (hat : atS (nd S pa).ks hs = at') (hatL : at' ≤ (nd S pa).ks.length) :
    Calls Tryz.prog 135 #[.slice (some ⟨g, 0, none⟩) S.length c, .int .i64 pa, .int .i64 ch, .slice ha hs.length hc] w fun e w' => e = .returned (.tuple #[]) ∧ Off (fun b => b = g ∨ b = kb pa) w w' ∧ ∀ w3 : World, (∀ b, g ≤ b → w3.heap[b]? = w'.heap[b]?) → NdsAt w3 (some ⟨g, 0, none⟩) (enterS S pa ch at') := by
  have AF : Hid (∀ (W w2 : World) (kb' kc' : Nat) (G' : Nat → Value), Below w.heap.size w W → (kb' = kb pa ∨ W.heap.size ≤ kb') → Off (fun b => b = kb pa) W w2 → w2.rowIs kb' 3 kc' G' → (ins (nd S pa).ks at' ch).length ≤ kc' → (∀ j, j < (ins (nd S pa).ks at' ch).length → G' j = .int .i64 ((ins (nd S pa).ks at' ch).getD j 0)) → ∀ w3 : World, (∀ b, g ≤ b → w3.heap[b]? = ((w2.setCell ⟨g, pa * 8 + 5, none⟩ (.slice (some ⟨kb', 0, none⟩) (ins (nd S pa).ks at' ch).length kc')).setCell ⟨g, ch * 8 + 4, none⟩ (.int .i64 pa)).heap[b]?) → NdsAt w3 (some ⟨g, 0, none⟩) (enterS S pa ch at')) := fun W w2 kb' kc' G' h1 h2 h3 h4 h5 h6 => enter_after hO h1 hpa hch hne hatL h2 h3 h4 h5 h6
  have HH : Hid (HandsAt w ha hs) := hH
  obtain ⟨hB, F, hF, hNd, hg, hd⟩ := hO
  obtain ⟨e0, e1, e2, e3, e4, e5, e6, e7, e8, e8b, G, hG, e9⟩ := hNd pa hpa
  obtain ⟨f0, f1, f2, f3, f4, f5, f6, f7, f8, f8b, G2, hG2, f9⟩ := hNd ch hch
  have hgl := hF.lt
  have hfz := hF.frozen
  have q5 : w.cell? ⟨g, pa * 8 + 5, none⟩ = some (.slice (some ⟨kb pa, 0, none⟩) (nd S pa).ks.length (kc pa)) := by rw [hF.cell (by omega), e5]
  have q4 : w.cell? ⟨g, ch * 8 + 4, none⟩ = some (.int .i64 (nd S ch).p) := by rw [hF.cell (by omega), f4]
  have hkl := hG.lt
  have hkg := hg pa hpa
  have dx := fun (v : Int) (W : World) (hW : Below w.heap.size w W) => index_any (some ⟨kb pa, 0, none⟩) (kc pa) (nd S pa).ks v W (by omega) ((ints_of_row hG e8 e9).below hW)
  have DX : Hid _ := dx
  have di := fun (W : World) (hW : Below w.heap.size w W) (vb : Nat) (hvb : vb ≠ kb pa) (hv : W.heap[vb]? = some (.cells #[.int .i64 (ch : Int)] 3 (0, 0))) => insert1_any (kb pa) (nd S pa).ks.length (kc pa) vb at' (nd S pa).ks ch W rfl hatL e8 e8b G (hG.of_block (hW.block _ hG.lt)) e9 hvb hv
  have DI : Hid _ := di
  have hpa2 : (pa : Int) < (S.length : Int) := by omega
  have hch2 : (ch : Int) < (S.length : Int) := by omega
  have H1 : Hid (hs.length ≤ 1) := hs1
  have HAT : Hid _ := hat
  have hLs : (nd S pa).ks.length ≤ 1000 := by omega
  clear e0 e1 e2 e3 e4 e5 e6 e7 e8 e8b hG e9 f0 f1 f2 f3 f4 f5 f6 f7 f8 f8b hG2 f9 hF hNd hd hg dx di hH hat
  generalize hL : (nd S pa).ks.length = L at *
  have HL : Hid _ := hL
  clear hL
  generalize hn : S.length = n at *
  generalize hm : hs.length = m at *
  have HM : Hid _ := hm
  clear hn hm
  have hm1 : m ≤ 1 := hs1
  go_enter Tryz.func135, Tryz.ntmps135
  go_wp2
  go_loopg [9, 21] m (fun g1 s9 s21 wr => ∃ (k : Nat) (x : Int), k ≤ m ∧ m - k ≤ g1 ∧ s21 = .int .i64 k ∧ s9 = .int .i64 x ∧ Below w.heap.size w wr ∧ Hid (x = atS (nd S pa).ks (hs.take k)))
  case atStart => exact ⟨0, L, by omega, by omega, rfl, rfl, Below.refl _ _, (show _ = _ by rw [← HL.out]; rfl)⟩
  case round =>
    obtain ⟨k, x, hk, hg1, rfl, rfl, hb, A⟩ := hrel
    by_cases hlt : k < m
    · have hk0 : k = 0 := by omega
      obtain ⟨b, o, rfl, c0, c1⟩ := (HH.out.below hb) k (by rw [HM.out]; exact hlt)
      have hlt2 : (k : Int) < (m : Int) := by omega
      have hbw := World.block_lt_of_cell? _ _ c0
      have TK : Hid (atS (nd S pa).ks (hs.take (k + 1)) = idx (nd S pa).ks (hs.getD k (0, 0)).1) := by
        subst hk0
        show _ = _
        obtain ⟨h0, hr, rfl⟩ : ∃ h0 hr, hs = h0 :: hr := by
          cases hs with
          | nil => have := HM.out; simp at this; omega
          | cons a r => exact ⟨a, r, rfl⟩
        rfl
      generalize (hs.getD k (0, 0)).1 = pv at *
      generalize (hs.getD k (0, 0)).2 = uv at *
      have d1 := fun o1 => DX.out pv (wr.alloc o1) (hb.alloc hb.size o1)
      generalize idx (nd S pa).ks pv = ix at *
      clear hk0
      go_wp2_with (go_at_call 46; refine (d1 _).mono ?_; rintro e w2 ⟨rfl, rfl⟩)
      go_roundg (m - (k + 1))
      case measure => omega
      case rel => exact ⟨k + 1, ix, by omega, by omega, by go_num, rfl, hb.alloc hb.size _, TK.out.symm⟩
    · have hkm : k = m := by omega
      have hxa : x = (at' : Int) := by
        rw [A.out, hkm, ← HM.out, List.take_length]; exact HAT.out
      subst hkm
      subst hxa
      have r5 := (hb.cell (by exact hgl)).trans q5
      have r4 := (hb.cell (by exact hgl)).trans q4
      have rf := fun o => (hb.frozen (by exact hgl)).trans (hfz o)
      have hkw : kb pa < wr.heap.size := Nat.lt_of_lt_of_le hkl hb.size
      have HV : Hid ((wr.alloc (.cells #[.int .i64 (ch : Int)] 3)).heap[wr.heap.size]? = some (.cells #[.int .i64 (ch : Int)] 3 (0, 0))) := heap_alloc_new wr _
      clear A
      have HFR : Hid (∀ w2, Off (fun b => b = kb pa) (wr.alloc (.cells #[.int .i64 (ch : Int)] 3)) w2 → w2.cell? ⟨g, pa * 8 + 5, none⟩ = some (.slice (some ⟨kb pa, 0, none⟩) L (kc pa)) ∧ (∀ v, (w2.setCell ⟨g, pa * 8 + 5, none⟩ v).cell? ⟨g, ch * 8 + 4, none⟩ = some (.int .i64 (nd S ch).p)) ∧ (∀ o, w2.frozen? ⟨g, o, none⟩ = false)) := fun w2 h2 => by
        have hgw : g < wr.heap.size := Nat.lt_of_lt_of_le hgl hb.size
        have hal := (Below.refl _ wr).alloc (Nat.le_refl _) (.cells #[.int .i64 (ch : Int)] 3)
        refine ⟨?_, fun v => ?_, fun o => ?_⟩
        · exact ((h2.cell (by simp; omega) (by simp; omega)).trans (hal.cell (by exact hgw))).trans r5
        · rw [World.cell?_setCell_other _ _ _ _ (by simp)]
          exact ((h2.cell (by simp; omega) (by simp; omega)).trans (hal.cell (by exact hgw))).trans r4
        · exact ((h2.frozen (by simp; omega) (by simp; omega)).trans (hal.frozen (by exact hgw))).trans (rf o)
      go_wp2_with (go_at_call 145; refine (DI.out _ (hb.alloc hb.size _) wr.heap.size (by omega) HV.out).mono ?_; rintro e w2 ⟨kb', kc', rfl, hkc', hkb', hoff, G', hG', hGk'⟩; obtain ⟨s5, s4, sf⟩ := HFR.out w2 hoff; have HG' : Hid _ := hG'; have HGk : Hid _ := hGk'; have HOFF : Hid _ := hoff; clear hG' hGk' hoff)
      refine bodyPost_end (v := .tuple #[]) (by simp [results, Tryz.results135, go_sem]) rfl ⟨rfl, ?_, ?_⟩
      · have h1 : Off (fun b => b = g ∨ b = kb pa) w w2 := (Off.of_below (hb.alloc hb.size _)).trans (HOFF.out.mono (fun k _ h => Or.inr h))
        exact (h1.trans (off_setCell _ (Or.inl rfl) _)).trans (off_setCell _ (Or.inl rfl) _)
      · exact AF.out _ _ _ _ _ (hb.alloc hb.size _) hkb' HOFF.out HG'.out hkc' HGk.out
end Go.Proofs.YtgjfmepbphfjoaaGreat

namespace Go.Proofs.YtgjfmepbphfjoaaGreat
open Go.RowKit

/-- What is asked of a function value that tells yes or no of a number: in every world in which all that lay in w, but in the blocks of X, lies unturned, it answers p, and turns nothing. -/
def TellsOff (X : Nat → Prop) (K : Nat) (caps : Array Value) (p : Int → Bool) (w : World) : Prop :=
  ∀ (x : Int) (w1 : World), Off X w w1 → Calls Tryz.prog K (#[.int .i64 x] ++ caps) w1 fun e w2 => e = .returned (.bool (p x)) ∧ Below w1.heap.size w1 w2

def flt (p : Int → Bool) (ks : List Int) : List Int := ks.filter fun x => !p x

theorem flt_succ (p : Int → Bool) (ks : List Int) (j : Nat) (h : j < ks.length) : flt p (ks.take (j + 1)) = flt p (ks.take j) ++ (if p (ks.getD j 0) then [] else [ks.getD j 0]) := by
  unfold flt
  rw [List.take_succ_eq_append_getElem h, List.filter_append, getD_elem ks 0 h]
  cases hp : p ks[j] <;> simp [hp]
theorem flt_all (p : Int → Bool) (ks : List Int) (h : ∀ i, i < ks.length → p (ks.getD i 0) = false) : flt p ks = ks := by
  unfold flt
  rw [List.filter_eq_self]
  intro x hx
  obtain ⟨i, hi, rfl⟩ := List.getElem_of_mem hx
  have := h i hi
  rw [getD_elem ks 0 hi] at this
  simp [this]
theorem flt_le (p : Int → Bool) (ks : List Int) : (flt p ks).length ≤ ks.length := List.length_filter_le _ _

def Deleted (w : World) (kb cap : Nat) (l : List Int) (e : Ending) (w' : World) : Prop :=
  e = .returned (.slice (some ⟨kb, 0, none⟩) l.length cap) ∧ Off (fun b => b = kb) w w' ∧ ∃ G, w'.rowIs kb 3 cap G ∧ ∀ j, j < l.length → G j = .int .i64 (l.getD j 0)

set_option maxHeartbeats 2000000 in
theorem deleteFunc_any (K : Nat) (caps : Array Value) (p : Int → Bool) (kb L cap : Nat) (ks : List Int) (G : Nat → Value) (w : World) (hL : ks.length = L) (hc : L ≤ cap) (hsm : cap ≤ 1000000000) (hG : w.rowIs kb 3 cap G) (hGk : ∀ j, j < L → G j = .int .i64 (ks.getD j 0))
    (eg : ∀ args w, (callFunc K args).run Tryz.prog w = .ok (.enter K args) w) (hT : TellsOff (fun b => b = kb) K caps p w) :
    Calls Tryz.prog 125 #[.slice (some ⟨kb, 0, none⟩) L cap, .func (.func K) #[] caps] w (Deleted w kb cap (flt p ks)) := by
  have di := indexFunc_any K caps p (some ⟨kb, 0, none⟩) cap ks w (by omega) (ints_of_row hG (by omega) (by rw [hL]; exact hGk)) eg (fun x w1 hb => hT x w1 (Off.of_below hb))
  rw [hL] at di
  have HG : Hid (w.rowIs kb 3 cap G) := hG
  have HGk : Hid _ := hGk
  have HT : Hid (TellsOff (fun b => b = kb) K caps p w) := hT
  have HL : Hid _ := hL
  have hkb := hG.lt
  clear hG hGk hT hL
  go_enter Tryz.func125, Tryz.ntmps125
  go_wp2_with fail
  refine di.mono ?_
  rintro e w1 ⟨r, rfl, hb1, hr⟩
  clear di
  rcases hr with ⟨rfl, hall⟩ | ⟨k, hk, rfl, hp, hf⟩
  · have hfl := flt_all p ks (by rw [HL.out]; exact hall)
    have E : Hid _ := hfl
    clear hall hfl
    go_wp2
    go_ret
    refine ⟨by rw [E.out, HL.out]; rfl, Off.of_below hb1, G, HG.out.of_block (hb1.block kb hkb), fun j hj => ?_⟩
    rw [E.out] at hj ⊢
    exact HGk.out j (by rw [← HL.out]; exact hj)
  · have hk1 : ((k : Int) == -1) = false := beq_eq_false_iff_ne.2 (by omega)
    have F0 : Hid (flt p (ks.take (k + 1)) = ks.take k) := by
      show _ = _
      rw [flt_succ p ks k (by rw [HL.out]; exact hk), hp, if_pos rfl, List.append_nil]
      refine flt_all p _ (fun i hi => ?_)
      rw [List.length_take] at hi
      have hks := HL.out
      have h1 := hf i (by omega)
      rw [getD_elem ks 0 (by omega)] at h1
      rw [getD_elem (ks.take k) 0 (by rw [List.length_take]; omega), List.getElem_take]
      exact h1
    have HR0 : Hid (w1.rowIs kb 3 cap G) := HG.out.of_block (hb1.block kb hkb)
    have FI : Hid (∀ t, t < k → G t = .int .i64 ((flt p (ks.take (k + 1))).getD t 0)) := fun t ht => by
      have hks := HL.out
      rw [F0.out, HGk.out t (by omega), getD_elem ks 0 (by omega), getD_elem (ks.take k) 0 (by rw [List.length_take]; omega), List.getElem_take]
    have FL : Hid ((flt p (ks.take (k + 1))).length = k) := by
      have hks := HL.out
      show _ = _
      rw [F0.out, List.length_take]; omega
    have O1 : Hid (Off (fun b => b = kb) w w1) := Off.of_below hb1
    clear hp hf hb1
    go_wp2
    go_loopg [5, 6] L (fun g1 s5 s6 wr => ∃ (i j : Nat) (G2 : Nat → Value), i < j ∧ j ≤ L ∧ L - j ≤ g1 ∧ s5 = .int .i64 i ∧ s6 = .int .i64 j ∧ Hid (Off (fun b => b = kb) w wr) ∧ Hid (wr.rowIs kb 3 cap G2) ∧ Hid ((flt p (ks.take j)).length = i) ∧ Hid (∀ t, t < i → G2 t = .int .i64 ((flt p (ks.take j)).getD t 0)) ∧ Hid (∀ t, j ≤ t → t < L → G2 t = .int .i64 (ks.getD t 0)))
    case atStart => exact ⟨k, k + 1, G, by omega, by omega, by omega, rfl, by go_num, O1, HR0, FL, FI, (show Hid _ from fun t _ ht => HGk.out t ht)⟩
    case round =>
      clear HR0 FI FL O1
      obtain ⟨i, j, G2, hij, hjL, hg1, rfl, rfl, O2, R2, L2, I2, J2⟩ := hrel
      have hkw : kb < wr.heap.size := R2.out.lt
      have hfz := R2.out.frozen
      by_cases hlt : j < L
      · have hlt2 : (j : Int) < (L : Int) := by omega
        have cj := R2.out.cell (i := j) (by omega)
        rw [J2.out j (Nat.le_refl _) hlt] at cj
        have ci := R2.out.cell (i := i) (by omega)
        have hcall := HT.out (ks.getD j 0) wr O2.out
        have FS := flt_succ p ks j (by rw [HL.out]; exact hlt)
        generalize hy : ks.getD j 0 = y at *
        have HY : Hid _ := hy
        clear hy
        cases hq : p y with
        | true =>
          rw [hq] at hcall FS
          rw [if_pos rfl, List.append_nil] at FS
          have HFS : Hid _ := FS
          clear FS
          go_wp2_with (go_at_fn K; refine hcall.mono ?_; rintro e w2 ⟨rfl, hb2⟩)
          go_roundg (L - (j + 1))
          case measure => omega
          case rel => exact ⟨i, j + 1, G2, by omega, by omega, by omega, rfl, by go_num, O2.out.trans (Off.of_below hb2), R2.out.of_block (hb2.block kb hkw), (show _ = _ by rw [HFS.out]; exact L2.out), (show Hid _ from fun t ht => by rw [HFS.out]; exact I2.out t ht), (show Hid _ from fun t h1 h2 => J2.out t (by omega) h2)⟩
        | false =>
          rw [hq] at hcall FS
          rw [if_neg (by simp)] at FS
          have HFS : Hid _ := FS
          clear FS
          go_wp2_with (go_at_fn K; refine hcall.mono ?_; rintro e w2 ⟨rfl, hb2⟩; have ci2 := (hb2.cell (by exact hkw)).trans ci; have hfz2 := fun o => (hb2.frozen (by exact hkw)).trans (hfz o))
          go_roundg (L - (j + 1))
          case measure => omega
          case rel =>
            refine ⟨i + 1, j + 1, _, by omega, by omega, by omega, by go_num, by go_num, (O2.out.trans (Off.of_below hb2)).trans (off_setCell (X := fun b => b = kb) _ rfl _), (R2.out.of_block (hb2.block kb hkw)).set i (.int .i64 y), (show _ = _ by rw [HFS.out, List.length_append, L2.out]; rfl), (show Hid _ from fun t ht => ?_), (show Hid _ from fun t h1 h2 => ?_)⟩
            · rw [HFS.out]
              by_cases e : t = i
              · subst e
                rw [if_pos rfl]
                simp [List.getD, L2.out]
              · rw [if_neg e, I2.out t (by omega)]
                simp [List.getD, List.getElem?_append, L2.out, show t < i by omega]
            · rw [if_neg (by omega)]
              exact J2.out t (by omega) h2
      · have hjL2 : j = L := by omega
        subst hjL2
        have hic : (i : Int) ≤ (cap : Int) := by omega
        have hiL : (i : Int) ≤ (j : Int) := by omega
        have EF : Hid (flt p (ks.take j) = flt p ks) := by
          show _ = _
          rw [← HL.out, List.take_length]
        have hcl : ∀ ty, (Builtin.clear_ #[29] ty #[.slice (some ⟨kb, i, none⟩) (j - i) (cap - i)]).run Tryz.prog wr = .ok (.tuple #[]) (wr.setCells kb i (List.replicate (j - i) (.int .i64 0))) := fun ty => Lib.run_clear_slice wr 29 3 ty (.int .i64 0) Tryz.underlying29 Tryz.zeroValue3 rfl rfl kb i (j - i) (cap - i) (by omega) (fun t ht => by rw [R2.out.cell (by omega)]; rfl) (fun t ht => hfz _)
        go_wp2
        go_ret
        refine ⟨?_, O2.out.trans (off_setCells (X := fun b => b = kb) rfl _ _ _), _, row_setCells _ _ _ _ R2.out, fun t ht => ?_⟩
        · rw [← EF.out, L2.out]; rfl
        · rw [← EF.out, L2.out] at ht
          rw [if_neg (by omega), I2.out t ht, EF.out]
end Go.Proofs.YtgjfmepbphfjoaaGreat
