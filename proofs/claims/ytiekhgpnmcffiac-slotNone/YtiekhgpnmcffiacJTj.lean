/-
  The contract of enter: the walk. And of leave, of a node that has no Parent.
-/
import Derived.Test.YtiekhgpnmcffiacJThTi
namespace Go.Proofs.Ytiekhgpnmcffiac
open Go.RowKit

theorem off_setCell {X : Nat → Prop} {a : Addr} (w : World) (hX : X a.block) (v : Value) : Off X w (w.setCell a v) :=
  ⟨rfl, rfl, rfl, by simp, fun k _ hx => Below.heap_setCell w a v k (fun e => hx (by rw [e]; exact hX))⟩

theorem Off.frozen {X : Nat → Prop} {w w' : World} (h : Off X w w') {p : Addr} (hp : p.block < w.heap.size) (hx : ¬ X p.block) : w'.frozen? p = w.frozen? p := by
  unfold World.frozen?
  rw [h.block _ hp hx]

set_option maxHeartbeats 1000000 in
theorem leave_none (g c N ch : Nat) (w : World) (hch : ch < N) (hp : w.cell? ⟨g, ch * 8 + 4, none⟩ = some (.int .i64 (-1))) :
    Calls Try.prog 84 #[.slice (some ⟨g, 0, none⟩) N c, .int .i64 ch] w fun e w' => e = .returned (.tuple #[]) ∧ Below w.heap.size w w' := by
  have hch2 : (ch : Int) < (N : Int) := by omega
  have hgw := World.block_lt_of_cell? _ _ hp
  go_enter Try.func84, Try.ntmps84
  go_wp2
  exact bodyPost_ret (v := .tuple #[]) (by simp [results, Try.results84, go_sem]) rfl ⟨rfl, (Below.refl _ _).alloc (Nat.le_refl _) _⟩

set_option maxHeartbeats 2000000 in
theorem enter_any (B g c : Nat) (S : List Nd) (kb kc : Nat → Nat) (pa ch at' : Nat) (ha : Option Addr) (hc : Nat) (hs : List (Int × Int)) (w : World) (hO : Own w B g S kb kc S.length) (hpa : pa < S.length) (hch : ch < S.length) (hne : pa ≠ ch) (hs1 : hs.length ≤ 1) (hH : HandsAt w ha hs) (hat : atS (nd S pa).ks hs = at') (hatL : at' ≤ (nd S pa).ks.length) :
    Calls Try.prog 85 #[.slice (some ⟨g, 0, none⟩) S.length c, .int .i64 pa, .int .i64 ch, .slice ha hs.length hc] w fun e w' => e = .returned (.tuple #[]) ∧ Off (fun b => b = g ∨ b = kb pa) w w' ∧ ∀ w3 : World, (∀ b, g ≤ b → w3.heap[b]? = w'.heap[b]?) → NdsAt w3 (some ⟨g, 0, none⟩) (enterS S pa ch at') := by
  have AF : Hid (∀ (W w2 : World) (kb' kc' : Nat) (G' : Nat → Value), Below w.heap.size w W → (kb' = kb pa ∨ W.heap.size ≤ kb') → Off (fun b => b = kb pa) W w2 → w2.rowIs kb' 3 kc' G' → (ins (nd S pa).ks at' ch).length ≤ kc' → (∀ j, j < (ins (nd S pa).ks at' ch).length → G' j = .int .i64 ((ins (nd S pa).ks at' ch).getD j 0)) → ∀ w3 : World, (∀ b, g ≤ b → w3.heap[b]? = ((w2.setCell ⟨g, pa * 8 + 5, none⟩ (.slice (some ⟨kb', 0, none⟩) (ins (nd S pa).ks at' ch).length kc')).setCell ⟨g, ch * 8 + 4, none⟩ (.int .i64 pa)).heap[b]?) → NdsAt w3 (some ⟨g, 0, none⟩) (enterS S pa ch at')) := fun W w2 kb' kc' G' h1 h2 h3 h4 h5 h6 => enter_after hO h1 hpa hch hne hatL h2 h3 h4 h5 h6
  have HH : Hid (HandsAt w ha hs) := hH
  obtain ⟨hB, F, hF, hNd, hg, hd⟩ := hO
  obtain ⟨e0, e1, e2, e3, e4, e5, e6, e7, e8, e8b, G, hG, e9⟩ := hNd pa hpa
  obtain ⟨f0, f1, f2, f3, f4, f5, f6, f7, f8, f8b, G2, hG2, f9⟩ := hNd ch hch
  have hgl := hF.lt
  have hfz := hF.frozen
  have q5 : w.cell? ⟨g, pa * 8 + 5, none⟩ = some (.slice (some ⟨kb pa, 0, none⟩) (nd S pa).ks.length (kc pa)) := by rw [hF.cell (by omega), e5]
  have q4 : w.cell? ⟨g, ch * 8 + 4, none⟩ = some (.int .i64 (nd S ch).p) := by rw [hF.cell (by omega), f4]
  have hkl := hG.lt
  have hkg := hg pa hpa
  have dx := fun (v : Int) (W : World) (hW : Below w.heap.size w W) => index_any (some ⟨kb pa, 0, none⟩) (kc pa) (nd S pa).ks v W (by omega) ((ints_of_row hG e8 e9).below hW)
  have DX : Hid _ := dx
  have di := fun (W : World) (hW : Below w.heap.size w W) (vb : Nat) (hvb : vb ≠ kb pa) (hv : W.heap[vb]? = some (.cells #[.int .i64 (ch : Int)] 3 (0, 0))) => insert1_any (kb pa) (nd S pa).ks.length (kc pa) vb at' (nd S pa).ks ch W rfl hatL e8 e8b G (hG.of_block (hW.block _ hG.lt)) e9 hvb hv
  have DI : Hid _ := di
  have hpa2 : (pa : Int) < (S.length : Int) := by omega
  have hch2 : (ch : Int) < (S.length : Int) := by omega
  have H1 : Hid (hs.length ≤ 1) := hs1
  have HAT : Hid _ := hat
  have hLs : (nd S pa).ks.length ≤ 1000 := by omega
  clear e0 e1 e2 e3 e4 e5 e6 e7 e8 e8b hG e9 f0 f1 f2 f3 f4 f5 f6 f7 f8 f8b hG2 f9 hF hNd hd hg dx di hH hat
  generalize hL : (nd S pa).ks.length = L at *
  have HL : Hid _ := hL
  clear hL
  generalize hn : S.length = n at *
  generalize hm : hs.length = m at *
  have HM : Hid _ := hm
  clear hn hm
  have hm1 : m ≤ 1 := hs1
  go_enter Try.func85, Try.ntmps85
  go_wp2
  go_loopg [9, 21] m (fun g1 s9 s21 wr => ∃ (k : Nat) (x : Int), k ≤ m ∧ m - k ≤ g1 ∧ s21 = .int .i64 k ∧ s9 = .int .i64 x ∧ Below w.heap.size w wr ∧ Hid (x = atS (nd S pa).ks (hs.take k)))
  case atStart => exact ⟨0, L, by omega, by omega, rfl, rfl, Below.refl _ _, (show _ = _ by rw [← HL.out]; rfl)⟩
  case round =>
    obtain ⟨k, x, hk, hg1, rfl, rfl, hb, A⟩ := hrel
    by_cases hlt : k < m
    · have hk0 : k = 0 := by omega
      obtain ⟨b, o, rfl, c0, c1⟩ := (HH.out.below hb) k (by rw [HM.out]; exact hlt)
      have hlt2 : (k : Int) < (m : Int) := by omega
      have hbw := World.block_lt_of_cell? _ _ c0
      have TK : Hid (atS (nd S pa).ks (hs.take (k + 1)) = idx (nd S pa).ks (hs.getD k (0, 0)).1) := by
        subst hk0
        show _ = _
        obtain ⟨h0, hr, rfl⟩ : ∃ h0 hr, hs = h0 :: hr := by
          cases hs with
          | nil => have := HM.out; simp at this; omega
          | cons a r => exact ⟨a, r, rfl⟩
        rfl
      generalize (hs.getD k (0, 0)).1 = pv at *
      generalize (hs.getD k (0, 0)).2 = uv at *
      have d1 := fun o1 => DX.out pv (wr.alloc o1) (hb.alloc hb.size o1)
      generalize idx (nd S pa).ks pv = ix at *
      clear hk0
      go_wp2_with (go_at_call 57; refine (d1 _).mono ?_; rintro e w2 ⟨rfl, rfl⟩)
      go_roundg (m - (k + 1))
      case measure => omega
      case rel => exact ⟨k + 1, ix, by omega, by omega, by go_num, rfl, hb.alloc hb.size _, TK.out.symm⟩
    · have hkm : k = m := by omega
      have hxa : x = (at' : Int) := by
        rw [A.out, hkm, ← HM.out, List.take_length]; exact HAT.out
      subst hkm
      subst hxa
      have r5 := (hb.cell (by exact hgl)).trans q5
      have r4 := (hb.cell (by exact hgl)).trans q4
      have rf := fun o => (hb.frozen (by exact hgl)).trans (hfz o)
      have hkw : kb pa < wr.heap.size := Nat.lt_of_lt_of_le hkl hb.size
      have HV : Hid ((wr.alloc (.cells #[.int .i64 (ch : Int)] 3)).heap[wr.heap.size]? = some (.cells #[.int .i64 (ch : Int)] 3 (0, 0))) := heap_alloc_new wr _
      clear A
      have HFR : Hid (∀ w2, Off (fun b => b = kb pa) (wr.alloc (.cells #[.int .i64 (ch : Int)] 3)) w2 → w2.cell? ⟨g, pa * 8 + 5, none⟩ = some (.slice (some ⟨kb pa, 0, none⟩) L (kc pa)) ∧ (∀ v, (w2.setCell ⟨g, pa * 8 + 5, none⟩ v).cell? ⟨g, ch * 8 + 4, none⟩ = some (.int .i64 (nd S ch).p)) ∧ (∀ o, w2.frozen? ⟨g, o, none⟩ = false)) := fun w2 h2 => by
        have hgw : g < wr.heap.size := Nat.lt_of_lt_of_le hgl hb.size
        have hal := (Below.refl _ wr).alloc (Nat.le_refl _) (.cells #[.int .i64 (ch : Int)] 3)
        refine ⟨?_, fun v => ?_, fun o => ?_⟩
        · exact ((h2.cell (by simp; omega) (by simp; omega)).trans (hal.cell (by exact hgw))).trans r5
        · rw [World.cell?_setCell_other _ _ _ _ (by simp)]
          exact ((h2.cell (by simp; omega) (by simp; omega)).trans (hal.cell (by exact hgw))).trans r4
        · exact ((h2.frozen (by simp; omega) (by simp; omega)).trans (hal.frozen (by exact hgw))).trans (rf o)
      go_wp2_with (go_at_call 106; refine (DI.out _ (hb.alloc hb.size _) wr.heap.size (by omega) HV.out).mono ?_; rintro e w2 ⟨kb', kc', rfl, hkc', hkb', hoff, G', hG', hGk'⟩; obtain ⟨s5, s4, sf⟩ := HFR.out w2 hoff; have HG' : Hid _ := hG'; have HGk : Hid _ := hGk'; have HOFF : Hid _ := hoff; clear hG' hGk' hoff)
      refine bodyPost_end (v := .tuple #[]) (by simp [results, Try.results85, go_sem]) rfl ⟨rfl, ?_, ?_⟩
      · have h1 : Off (fun b => b = g ∨ b = kb pa) w w2 := (Off.of_below (hb.alloc hb.size _)).trans (HOFF.out.mono (fun k _ h => Or.inr h))
        exact (h1.trans (off_setCell _ (Or.inl rfl) _)).trans (off_setCell _ (Or.inl rfl) _)
      · exact AF.out _ _ _ _ _ (hb.alloc hb.size _) hkb' HOFF.out HG'.out hkc' HGk.out
end Go.Proofs.Ytiekhgpnmcffiac
