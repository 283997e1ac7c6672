/-
  The reference's without and Removed.
-/
import Derived.Test.YtjlapfgghljidaaURk
import Derived.Test.YtjlapfgghljidaaURaRbRhRiRz
import Derived.Test.YtjlapfgghljidaaURdRe
import Derived.Test.YtjlapfgghljidaaUTjUaUb
import Derived.Test.YtjlapfgghljidaaUWbWdSrWfTm
import Derived.Deep.RegionHeld3
import Derived.Deep.DeepCutAuto
namespace Go.Proofs.Ytjlapfgghljidaa
open Go.RowKit

/-- A node of the row gets other children. -/
theorem OwnK.putK {B : Nat} {S : List Nd} {q : Nat} {K : Nat → Value} {g cap : Nat} {w : World} (h : OwnK B S q K (.slice (some ⟨g, 0, none⟩) q cap) w) {k : Nat} (hk : k < q) (hq : S.length = q) (ks' : List Int) (v' : Value) (hv : w.ownsRow B 3 1 v' ks'.length (ks'.map (Value.int .i64))) :
    OwnK B (S.set k ⟨(nd S k).u, (nd S k).n, (nd S k).t, (nd S k).m, (nd S k).p, ks', (nd S k).h, (nd S k).c⟩) q (fun i => if i = k then v' else K i) (.slice (some ⟨g, 0, none⟩) q cap) (w.setCell ⟨g, k * 8 + 5, none⟩ v') := by
  refine h.put (j := 5) (by omega) (fun i hi j' hj' => ?_) (fun i hi => ?_)
  · by_cases e : i = k
    · subst e
      rw [nd_set S i i _ (by omega), if_pos rfl]
      simp only [if_true]
      match j', hj' with
      | 0, _ | 1, _ | 2, _ | 3, _ | 4, _ | 5, _ | 6, _ | 7, _ => rfl
    · rw [nd_set S k i _ (by omega), if_neg e]
      simp only [if_neg e]
      rw [if_neg (fun hh => e hh.1)]
  · by_cases e : i = k
    · subst e
      rw [nd_set S i i _ (by omega), if_pos rfl]
      simp only [if_true]
      exact hv
    · rw [nd_set S k i _ (by omega), if_neg e]
      simp only [if_neg e]
      exact h.2 i hi

def woF (k : Int) (ks : List Int) : List Int := flt (fun x => decide (x = k)) ks

set_option maxRecDepth 100000 in
set_option maxHeartbeats 4000000 in
theorem rWithout_any (ka : Option Addr) (kc : Nat) (ks : List Int) (k : Int) (w : World) (hl : ks.length ≤ 1000) (hI : IntsAt w ka ks) :
    Calls Try.prog 66 #[.slice ka ks.length kc, .int .i64 k] w fun e w' => ∃ v, e = .returned v ∧ Below w.heap.size w w' ∧ w'.ownsRow w.heap.size 3 1 v (woF k ks).length ((woF k ks).map (Value.int .i64)) := by
  obtain ⟨i0, hi0, hz0, hz1, hz2⟩ := info_parts info3
  have HI : Hid (IntsAt w ka ks) := hI
  have R0 : Hid (woF k ks = flt (fun x => decide (x = k)) ks) := (rfl : woF k ks = _)
  clear hI
  generalize woF k ks = RES at *
  obtain ⟨m, hm⟩ : ∃ m, ks.length = m := ⟨_, rfl⟩
  have HM : Hid (ks.length = m) := hm
  rw [hm] at hl ⊢
  clear hm
  go_enter Try.func66, Try.ntmps66
  go_wp2_with fail
  go_loopg [5, 10] m (fun g s5 s10 wr => ∃ (i : Nat) (l : List Int), i ≤ m ∧ m - i ≤ g ∧ s10 = .int .i64 i ∧ l.length ≤ i ∧ Hid (Below w.heap.size w wr) ∧ w.heap.size ≤ wr.heap.size ∧ Hid (wr.ownsRow w.heap.size 3 1 s5 l.length (l.map (Value.int .i64))) ∧ Hid (l = flt (fun x => decide (x = k)) (ks.take i)))
  case atStart => exact ⟨0, [], by omega, by omega, rfl, by simp, Below.refl _ _, Nat.le_refl _, World.ownsRow_nil _ _ _ _, (by simp [flt] : ([] : List Int) = flt (fun x => decide (x = k)) (ks.take 0))⟩
  case round =>
    obtain ⟨i, l, hi, hg, rfl, hli, HB, hsz, HO, HE⟩ := hrel
    obtain ⟨qa, qc, hv, _⟩ := own_slice HO.out
    subst hv
    obtain ⟨ln, hln⟩ : ∃ y, l.length = y := ⟨_, rfl⟩
    have HLN : Hid (l.length = ln) := hln
    rw [hln] at HO hli ⊢
    clear hln
    by_cases hlt : i < m
    · obtain ⟨pb, po, ep, hpc⟩ := (HI.out.below HB.out) i (by rw [HM.out]; exact hlt)
      subst ep
      have hi2 : (i : Int) < (m : Int) := by omega
      have e := flt_succ (fun x => decide (x = k)) ks i (by rw [HM.out]; exact hlt)
      rw [← HE.out] at e
      have NX : Hid _ := e
      clear HE e
      generalize ks.getD i 0 = y at *
      by_cases hy : y = k
      · subst hy
        have E2 : Hid (l = flt (fun x => decide (x = y)) (ks.take (i + 1))) := (by rw [NX.out]; simp : l = flt (fun x => decide (x = y)) (ks.take (i + 1)))
        have HO2 : Hid (wr.ownsRow w.heap.size 3 1 (.slice qa ln qc) l.length (l.map (Value.int .i64))) := (by rw [HLN.out]; exact HO.out : wr.ownsRow w.heap.size 3 1 (.slice qa ln qc) l.length (l.map (Value.int .i64)))
        clear NX HO
        go_wp2
        go_roundg (m - (i + 1))
        case measure => omega
        case rel => exact ⟨i + 1, l, by omega, by omega, by go_num, by rw [HLN.out]; omega, HB, hsz, HO2, E2⟩
      · have hyb : (y == k) = false := beq_eq_false_iff_ne.2 hy
        have hyd : decide (y = k) = false := decide_eq_false hy
        have E2 : Hid (l ++ [y] = flt (fun x => decide (x = k)) (ks.take (i + 1))) := (by rw [NX.out]; simp [hy] : l ++ [y] = flt (fun x => decide (x = k)) (ks.take (i + 1)))
        have OB : Hid (∀ k, (Value.slice qa ln qc).ownBlock = some k → w.heap.size ≤ k) := fun k hk => (HO.out.lt k hk).1
        have hln1 : ln ≤ 1000 := by omega
        clear NX
        go_wp2_with (at_builtin; refine wpList_append_own _ rfl _ _ 33 rfl w.heap.size 3 i0 (.int .i64 0) 1 8 Try.underlying33 hi0 hz0 hz1 hz2 rfl (by decide) _ _ _ rfl (HO.out.alloc _) ⟨wr.heap.size, 0, none⟩ 1 1 [.int .i64 y] rfl rfl ?c1 ?c2 ?c3 ?c4 ?c5 ?_)
        case c2 => first | rfl | (intro u hu; simp at hu; subst hu; rfl) | simp
        case c3 => unfold maxLen; omega
        case c4 => omega
        case c5 => first | omega | (simp; omega)
        case c1 => first | (go_simp; done) | (intro j u hj; match j, hj with | 0, hj => (cases hj; go_simp) | (j + 1), hj => simp at hj)
        intro v' w2 hown' hgrow _
        have hb2 : Below w.heap.size wr w2 := ((Below.refl _ wr).alloc (by omega) _).grown hgrow (by simp; omega) (fun k hk => OB.out k hk)
        have HB2 : Hid (Below w.heap.size w w2) := HB.out.trans hb2
        have HO2 : Hid (w2.ownsRow w.heap.size 3 1 v' (l ++ [y]).length ((l ++ [y]).map (Value.int .i64))) := by
          have h2 := hown'
          rw [show (l ++ [y]).length = ln + 1 by simp [HLN.out], List.map_append]
          exact h2
        have hs2 := HB2.out.size
        clear hown' hgrow hb2 HO
        go_wp2_with fail
        go_roundg (m - (i + 1))
        case measure => omega
        case rel => exact ⟨i + 1, l ++ [y], by omega, by omega, by go_num, by simp [HLN.out]; omega, HB2, hs2, HO2, E2⟩
    · have hie : i = m := by omega
      subst hie
      have e := HE.out
      rw [List.take_of_length_le (by rw [HM.out]; omega), ← R0.out] at e
      have OW : Hid (wr.ownsRow w.heap.size 3 1 (.slice qa ln qc) RES.length (RES.map (Value.int .i64))) := by
        have h2 := HO.out
        rw [← HLN.out, e] at h2
        rw [← HLN.out, e]
        exact h2
      clear HE e HO
      go_wp2
      go_ret
      exact ⟨_, rfl, HB.out, OW.out⟩

set_option maxHeartbeats 2000000 in
theorem rRem_err (a : Option Addr) (c : Nat) (S : List Nd) (p u E : Int) (w : World) (hN : S.length ≤ 9223372036854775807) (hC : RChk a c S) (hS : NdsAt w a S) (hE : tcheckE S [(p, u)] = E) (hE0 : E ≠ 0) :
    Calls Try.prog 29 #[.agg #[.slice a S.length c], .agg #[.int .i64 p, .int .i64 u]] w fun e w' => e = .returned (.tuple #[.agg #[.slice none 0 0], .int .i64 E]) ∧ Below w.heap.size w w' := by
  have df := fun (W : World) (ha : Option Addr) (hW : NdsAt W a S) (hH : HandsAt W ha [(p, u)]) => rFirst_any a c S ha 1 [(p, u)] W (by omega) hC hW (by simp) hH
  rw [hE] at df
  have DF : Hid _ := df
  have HS : Hid (NdsAt w a S) := hS
  have hz : (E == 0) = false := by simp [hE0]
  have hz2 : decide (E = 0) = false := decide_eq_false hE0
  clear hS hC df hE
  generalize S.length = n at *
  go_enter Try.func29, Try.ntmps29
  go_wp2_with fail
  refine Calls.mono (DF.out _ _ (HS.out.below ((three_below _ _ _ _).alloc (by simp; omega) _)) (hands_one _ _ _ _ (by go_simp) (by go_simp))) ?_
  rintro e w1 ⟨rfl, hb1⟩
  simp only [World.size_alloc] at hb1
  obtain ⟨l0, l1, l2, l3, z0, z1, hsz, hB1⟩ := freed_low hb1
  have HB1 : Hid _ := hB1
  clear hb1 hB1 DF
  go_wp2_with fail
  refine bodyPost_ret (v := .tuple #[.agg #[.slice none 0 0], .int .i64 E]) (by simp [results, Try.results29, go_sem, l3]) rfl ⟨rfl, ?_⟩
  first | exact HB1.out.setCell (by simp; omega) _ | exact (HB1.out.setCell (by simp; omega) _).drew

set_option maxHeartbeats 2000000 in
theorem rRem_none (a : Option Addr) (c : Nat) (S : List Nd) (ch : Nat) (u : Int) (w : World) (hN : S.length ≤ 9223372036854775807) (hC : RChk a c S) (hS : NdsAt w a S) (hE : tcheckE S [((ch : Int), u)] = 0) (hch : ch < S.length) (hp : (nd S ch).p = -1) :
    Calls Try.prog 29 #[.agg #[.slice a S.length c], .agg #[.int .i64 (ch : Int), .int .i64 u]] w fun e w' => e = .returned (.tuple #[.agg #[.slice none 0 0], .int .i64 6]) ∧ Below w.heap.size w w' := by
  have df := fun (W : World) (ha : Option Addr) (hW : NdsAt W a S) (hH : HandsAt W ha [((ch : Int), u)]) => rFirst_any a c S ha 1 [((ch : Int), u)] W (by omega) hC hW (by simp) hH
  rw [hE] at df
  have DF : Hid _ := df
  have HS : Hid (NdsAt w a S) := hS
  have hch2 : (ch : Int) < (S.length : Int) := by omega
  clear hS hC df hE
  generalize hn : S.length = n at *
  have HN : Hid (S.length = n) := hn
  clear hn
  go_enter Try.func29, Try.ntmps29
  go_wp2_with fail
  refine Calls.mono (DF.out _ _ (HS.out.below ((three_below _ _ _ _).alloc (by simp; omega) _)) (hands_one _ _ _ _ (by go_simp) (by go_simp))) ?_
  rintro e w1 ⟨rfl, hb1⟩
  simp only [World.size_alloc] at hb1
  obtain ⟨l0, l1, l2, l3, z0, z1, hsz, hB1⟩ := freed_low hb1
  have HB1 : Hid _ := hB1
  clear hb1 hB1 DF
  obtain ⟨nb, no, ea, _, _, _, _, c4, _, _, _⟩ := (HS.out.below HB1.out) ch (by rw [HN.out]; exact hch)
  subst ea
  rw [hp] at c4
  go_wp2_with fail
  refine bodyPost_ret (v := .tuple #[.agg #[.slice none 0 0], .int .i64 6]) (by simp [results, Try.results29, go_sem, l3]) rfl ⟨rfl, ?_⟩
  first | exact HB1.out.setCell (by simp; omega) _ | exact (HB1.out.setCell (by simp; omega) _).drew

theorem leaveS_sets {S : List Nd} {pa ch : Nat} (hpa : pa < S.length) (hch : ch < S.length) (hne : pa ≠ ch) :
    (S.set pa ⟨(nd S pa).u, (nd S pa).n, (nd S pa).t, (nd S pa).m, (nd S pa).p, woF ch (nd S pa).ks, (nd S pa).h, (nd S pa).c⟩).set ch ⟨(nd S ch).u, (nd S ch).n, (nd S ch).t, (nd S ch).m, -1, (nd S ch).ks, (nd S ch).h, (nd S ch).c⟩ = leaveS S pa ch := by
  refine List.ext_getElem (by simp [leaveS_length]) (fun i h1 h2 => ?_)
  have hi : i < S.length := by simpa using h1
  have e1 := nd_leaveS S pa ch i hi
  rw [nd_elem (by rw [leaveS_length]; exact hi)] at e1
  rw [e1]
  unfold leaveNd
  by_cases e : i = ch
  · subst e
    rw [List.getElem_set_self, if_pos rfl]
  · rw [List.getElem_set_ne (fun h => e h.symm), if_neg e]
    by_cases e2 : i = pa
    · subst e2
      rw [List.getElem_set_self, if_pos rfl]
      rfl
    · rw [List.getElem_set_ne (fun h => e2 h.symm), if_neg e2, nd_elem hi]

set_option maxRecDepth 100000 in
set_option maxHeartbeats 4000000 in
theorem rRem_ok (a : Option Addr) (c : Nat) (S : List Nd) (ch pa : Nat) (u : Int) (w : World) (hN : S.length ≤ 24) (hC : RChk a c S) (hS : NdsAt w a S) (hK0 : ∀ i, i < S.length → (nd S i).ks.length ≤ 1000) (hE : tcheckE S [((ch : Int), u)] = 0) (hch : ch < S.length) (hpa : pa < S.length) (hne : pa ≠ ch) (hp : (nd S ch).p = pa) :
    Calls Try.prog 29 #[.agg #[.slice a S.length c], .agg #[.int .i64 (ch : Int), .int .i64 u]] w fun e w' => ∃ a' c', e = .returned (.tuple #[.agg #[.slice a' S.length c'], .int .i64 0]) ∧ Below w.heap.size w w' ∧ NdsAt w' a' (leaveS S pa ch) := by
  have df := fun (W : World) (ha : Option Addr) (hW : NdsAt W a S) (hH : HandsAt W ha [((ch : Int), u)]) => rFirst_any a c S ha 1 [((ch : Int), u)] W (by omega) hC hW (by simp) hH
  rw [hE] at df
  have DF : Hid _ := df
  have HS : Hid (NdsAt w a S) := hS
  have DO : Hid (∀ W, NdsAt W a S → Calls _ _ _ _ _) := fun W hW => rOwn_any a c S W (by omega) (fun i hi => by have := hK0 i hi; omega) hW
  have hch2 : (ch : Int) < (S.length : Int) := by omega
  have hpa2 : (pa : Int) < (S.length : Int) := by omega
  have LS : Hid _ := leaveS_sets hpa hch hne
  have HKS : Hid _ := hK0
  clear hS hC df hE hK0
  generalize hn : S.length = n at *
  have HN : Hid (S.length = n) := hn
  clear hn
  go_enter Try.func29, Try.ntmps29
  go_wp2_with fail
  refine Calls.mono (DF.out _ _ (HS.out.below ((three_below _ _ _ _).alloc (by simp; omega) _)) (hands_one _ _ _ _ (by go_simp) (by go_simp))) ?_
  rintro e w1 ⟨rfl, hb1⟩
  simp only [World.size_alloc] at hb1
  obtain ⟨l0, l1, l2, l3, z0, z1, hsz, hB1⟩ := freed_low hb1
  have HB1 : Hid _ := hB1
  clear hb1 hB1 DF
  obtain ⟨nb, no, ea, _, _, _, _, c4, _, _, _⟩ := (HS.out.below HB1.out) ch (by rw [HN.out]; exact hch)
  subst ea
  rw [hp] at c4
  have hpb : ((pa : Int) == -1) = false := beq_eq_false_iff_ne.2 (by omega)
  have hnb := World.block_lt_of_cell? _ _ c4
  go_wp2_with fail
  refine Calls.mono (DO.out _ (HS.out.below HB1.out)) ?_
  rintro e w2 ⟨v, KK, rfl, hb2, hown⟩
  obtain ⟨g, cap, rfl, hg, hg2, hcap, hcm, hO, hB3, ⟨m0, y0⟩, m1, m2, m3, y1⟩ := own_afterF (by omega) hsz HB1.out l0 l1 l2 l3 z0 z1 hb2 hown
  obtain ⟨W3, hW3⟩ : ∃ W3, w2.setCell ⟨w.heap.size, 0, none⟩ (.slice (some ⟨g, 0, none⟩) n cap) = W3 := ⟨_, rfl⟩
  have HO3 : Hid (OwnK (w.heap.size + 4) S n KK (.slice (some ⟨g, 0, none⟩) n cap) W3) := by rw [← hW3]; exact hO
  have HB3 : Hid (Below w.heap.size w W3) := by rw [← hW3]; exact hB3
  have hs3 : W3.heap.size = w2.heap.size := by rw [← hW3]; simp
  have s0 : W3.cell? ⟨w.heap.size, 0, none⟩ = some (.slice (some ⟨g, 0, none⟩) n cap) := by rw [← hW3]; exact World.cell?_setCell_same _ _ _ m0
  have s1 : W3.cell? ⟨w.heap.size + 1, 0, none⟩ = some (.int .i64 (ch : Int)) := by rw [← hW3]; exact cell_else (by omega) m1
  have s3 : W3.cell? ⟨w.heap.size + 1 + 1, 0, none⟩ = some (.slice none 0 0) := by rw [← hW3]; exact cell_else (by omega) m3
  have f3 : W3.frozen? ⟨w.heap.size + 1 + 1, 0, none⟩ = false := by rw [← hW3]; exact frozen_else y1
  clear hO hB3 hown hb2 l0 l1 l2 l3 z0 z1 c4 hnb DO
  have r4 : W3.cell? ⟨g, ch * 8 + 4, none⟩ = some (.int .i64 (pa : Int)) := by
    have h := HO3.out.cellAt (i := ch) (j := 4) hch (by omega)
    rw [h]
    show some (Value.int .i64 (nd S ch).p) = _
    rw [hp]
  have r5 : W3.cell? ⟨g, pa * 8 + 5, none⟩ = some (KK pa) := HO3.out.cellAt (i := pa) (j := 5) hpa (by omega)
  obtain ⟨ka, kc, hkv, hki, _⟩ := own_slice (HO3.out.2 pa hpa)
  rw [hkv] at r5
  have hkl := HKS.out pa hpa
  have HKI : Hid (IntsAt W3 ka (nd S pa).ks) := hki
  have hgl : g < W3.heap.size := by omega
  have fz : ∀ o, W3.frozen? ⟨g, o, none⟩ = false := fun o => HO3.out.frozenAt o
  have DW : Hid (∀ W, IntsAt W ka (nd S pa).ks → Calls _ _ _ _ _) := fun W hW => rWithout_any ka kc (nd S pa).ks (ch : Int) W hkl hW
  have e1 : ¬ w.heap.size = g := by omega
  have e2 : ¬ w.heap.size + 1 = g := by omega
  have e3 : ¬ w.heap.size + 1 + 1 = g := by omega
  have e1' : ¬ g = w.heap.size := by omega
  have e2' : ¬ g = w.heap.size + 1 := by omega
  have e3' : ¬ g = w.heap.size + 1 + 1 := by omega
  have q0 : w.heap.size < W3.heap.size := by omega
  have q1 : w.heap.size + 1 < W3.heap.size := by omega
  have q2 : w.heap.size + 1 + 1 < W3.heap.size := by omega
  obtain ⟨L, hL⟩ : ∃ L, (nd S pa).ks.length = L := ⟨_, rfl⟩
  have HLk : Hid ((nd S pa).ks.length = L) := hL
  rw [hL] at r5 DW hkl
  clear hki m1 m2 m3 y1 hkv hL
  go_upto_region 7 with fail
  try rw [hW3]
  clear hW3 m0 y0
  go_wp2_with fail
  refine wp_region_noPanic ?_
  refine wp_region_held_drew (S := fun w'' => w''.cell? ⟨w.heap.size, 0, none⟩ = some (.slice (some ⟨g, 0, none⟩) n cap) ∧ w''.cell? ⟨w.heap.size + 1, 0, none⟩ = some (.int .i64 (ch : Int))) (by kernel_rfl) (by (try dsimp only); go_keep) (fun hHeld => ?_)
  refine wpAnyH_take (i := 0) (v := ?_) rfl (by kernel_rfl) (by kernel_rfl) (by kernel_rfl) (fun _ _ _ h => h) (Or.inl ⟨by rfl, ?_⟩) (by assumption) ?_
  rotate_left
  · intro w hSw; (try dsimp only at hSw); first | (go_simp; done) | (go_simp; with_reducible rfl)
  simp [Act.put]
  refine wpAnyH_take (i := 1) (v := ?_) rfl (by kernel_rfl) (by kernel_rfl) (by kernel_rfl) (fun _ _ _ h => h) (Or.inl ⟨by rfl, ?_⟩) (by assumption) ?_
  rotate_left
  · intro w hSw; (try dsimp only at hSw); first | (go_simp; done) | (go_simp; with_reducible rfl)
  simp [Act.put]
  refine wpAnyH_take (i := 2) (v := ?_) rfl (by kernel_rfl) (by kernel_rfl) (by kernel_rfl) (fun _ _ _ h => h) (Or.inl ⟨by rfl, ?_⟩) (by assumption) ?_
  rotate_left
  · intro w hSw; (try dsimp only at hSw); first | (go_simp; done) | (go_simp; with_reducible rfl)
  simp [Act.put]
  refine wpAnyH_take (i := 3) (v := ?_) rfl (by kernel_rfl) (by kernel_rfl) (by kernel_rfl) (fun _ _ _ h => h) (Or.inl ⟨by rfl, ?_⟩) (by assumption) ?_
  rotate_left
  · intro w hSw; (try dsimp only at hSw); first | (go_simp; done) | (go_simp; with_reducible rfl)
  simp [Act.put]
  refine wpAnyH_take (i := 4) (v := ?_) rfl (by kernel_rfl) (by kernel_rfl) (by kernel_rfl) (fun _ _ _ h => h) (Or.inl ⟨by rfl, ?_⟩) (by assumption) ?_
  rotate_left
  · intro w hSw; (try dsimp only at hSw); first | (go_simp; done) | (go_simp; with_reducible rfl)
  simp [Act.put]
  refine wpAnyH_take (i := 5) (v := ?_) rfl (by kernel_rfl) (by kernel_rfl) (by kernel_rfl) (fun _ _ _ h => h) (Or.inl ⟨by rfl, ?_⟩) (by assumption) ?_
  rotate_left
  · intro w hSw; (try dsimp only at hSw); first | (go_simp; done) | (go_simp; with_reducible rfl)
  simp [Act.put]
  refine wpAnyH_take (i := 6) (v := ?_) rfl (by kernel_rfl) (by kernel_rfl) (by kernel_rfl) (fun _ _ _ h => h) (Or.inl ⟨by rfl, ?_⟩) (by assumption) ?_
  rotate_left
  · intro w hSw; (try dsimp only at hSw); first | (go_simp; done) | (go_simp; with_reducible rfl)
  simp [Act.put]
  refine wpAnyH_take (i := 7) (v := ?_) rfl (by kernel_rfl) (by kernel_rfl) (by kernel_rfl) (fun _ _ _ h => h) (Or.inl ⟨by rfl, ?_⟩) (by assumption) ?_
  rotate_left
  · intro w hSw; (try dsimp only at hSw); first | (go_simp; done) | (go_simp; with_reducible rfl)
  simp [Act.put]
  refine wpAnyH_take (i := 9) (v := ?_) rfl (by kernel_rfl) (by kernel_rfl) (by kernel_rfl) (fun _ _ _ h => h) (Or.inl ⟨by rfl, ?_⟩) (by assumption) ?_
  rotate_left
  · intro w hSw; (try dsimp only at hSw); first | (go_simp; done) | (go_simp; with_reducible rfl)
  simp [Act.put]
  refine wpAnyH_take (i := 10) (v := ?_) rfl (by kernel_rfl) (by kernel_rfl) (by kernel_rfl) (fun _ _ _ h => h) (Or.inl ⟨by rfl, ?_⟩) (by assumption) ?_
  rotate_left
  · intro w hSw; (try dsimp only at hSw); first | (go_simp; done) | (go_simp; with_reducible rfl)
  simp [Act.put]
  refine wpAnyH_ready (rs := [8]) (by kernel_rfl) (by simp) ?_
  refine AllReadyH.cons rfl (fun K hK => ?_) AllReadyH.nil
  go_simp
  refine hK.out _ _ ?_ (fun hHeld => ?_)
  · (try dsimp only)
    first | go_keep | exact ⟨by assumption, by assumption⟩
  clear hK K
  try simp [Act.put]
  refine wpAnyH_ready (rs := [11]) (by kernel_rfl) (by simp) ?_
  refine AllReadyH.cons rfl (fun K hK => ?_) AllReadyH.nil
  go_simp
  refine Calls.mono (DW.out _ (HKI.out.below (by first | exact (Below.refl _ _).drew | exact Below.refl _ _))) ?_
  rintro e w5 ⟨v5, rfl, hb5, hown5⟩
  have hb5' : Below W3.heap.size W3 w5 := (by first | exact (Below.refl W3.heap.size W3).drew.trans hb5 | exact hb5)
  have t0 := keepC s0 hb5'
  have t1 := keepC s1 hb5'
  have t3 := keepC s3 hb5'
  have t4 := keepC r4 hb5'
  have t5 := keepC r5 hb5'
  have ft3 : w5.frozen? ⟨w.heap.size + 1 + 1, 0, none⟩ = false := (hb5'.frozen (p := ⟨w.heap.size + 1 + 1, 0, none⟩) q2).trans f3
  have ftg : ∀ o, w5.frozen? ⟨g, o, none⟩ = false := fun o => (hb5'.frozen (p := ⟨g, o, none⟩) hgl).trans (fz o)
  have hs5 := hb5'.size
  have HO5 : Hid (OwnK (w.heap.size + 4) S n KK (.slice (some ⟨g, 0, none⟩) n cap) w5) := HO3.out.other (fun b _ hb => hb5'.block b hb)
  have HV5 : Hid (w5.ownsRow (w.heap.size + 4) 3 1 v5 (woF ch (nd S pa).ks).length ((woF ch (nd S pa).ks).map (Value.int .i64))) := ownsRow_baseL hown5 (by first | (simp; omega) | omega)
  have HB5 : Hid (Below w.heap.size w w5) := HB3.out.trans (hb5'.mono HB3.out.size)
  obtain ⟨pa5, pc5, hv5, _⟩ := own_slice hown5
  subst hv5
  clear hb5 hb5' hown5
  go_wp2_with fail
  refine hK.out _ _ ?_ (fun hHeld => ?_)
  · (try dsimp only)
    first | exact ⟨t0, t1⟩ | go_keep
  clear hK K
  try simp [Act.put]
  refine wpAnyH_take (i := 12) (v := ?_) rfl (by kernel_rfl) (by kernel_rfl) (by kernel_rfl) (fun _ _ _ h => h) (Or.inl ⟨by rfl, ?_⟩) (by assumption) ?_
  rotate_left
  · intro w hSw; (try dsimp only at hSw); first | (go_simp; done) | (go_simp; with_reducible rfl)
  simp [Act.put]
  refine wpAnyH_take (i := 13) (v := ?_) rfl (by kernel_rfl) (by kernel_rfl) (by kernel_rfl) (fun _ _ _ h => h) (Or.inl ⟨by rfl, ?_⟩) (by assumption) ?_
  rotate_left
  · intro w hSw; (try dsimp only at hSw); first | (go_simp; done) | (go_simp; with_reducible rfl)
  simp [Act.put]
  refine wpAnyH_ready (rs := [14]) (by kernel_rfl) (by simp) ?_
  refine AllReadyH.cons rfl (fun K hK => ?_) AllReadyH.nil
  go_simp
  refine hK.out _ _ ?_ (fun hHeld => ?_)
  · (try dsimp only)
    first | exact ⟨cell_else (by omega) t0, cell_else (by omega) t1⟩ | go_keep
  clear hK K
  try simp [Act.put]
  refine wpAnyH_done (by kernel_rfl) ?_ _
  refine NoPanic.normal ?_
  go_wp2_with fail
  have p1 := HO5.out.putK (k := pa) hpa HN.out (woF ch (nd S pa).ks) (.slice pa5 (woF ch (nd S pa).ks).length pc5) HV5.out
  have e0 : ∀ X, nd (S.set pa X) ch = nd S ch := fun X => by rw [nd_set S pa ch _ (by rw [HN.out]; exact hpa), if_neg (fun h => hne h.symm)]
  have p2 := p1.put1 (k := ch) (j := 4) (u := .int .i64 (-1)) hch (by rw [List.length_set]; exact HN.out) (by omega) ⟨(nd S ch).u, (nd S ch).n, (nd S ch).t, (nd S ch).m, -1, (nd S ch).ks, (nd S ch).h, (nd S ch).c⟩ (fun v j' hj' => by
    rw [e0]
    match j', hj' with
    | 0, _ | 1, _ | 2, _ | 3, _ | 4, _ | 5, _ | 6, _ | 7, _ => rfl) (by rw [e0])
  rw [LS.out] at p2
  have x3 : ((w5.setCell ⟨g, pa * 8 + 5, none⟩ (.slice pa5 (woF ch (nd S pa).ks).length pc5)).setCell ⟨g, ch * 8 + 4, none⟩ (.int .i64 (-1))).cell? ⟨w.heap.size + 1 + 1, 0, none⟩ = some (.slice none 0 0) := cell_else e3 (cell_else e3 t3)
  refine bodyPost_ret (v := .tuple #[.agg #[.slice (some ⟨g, 0, none⟩) n cap], .int .i64 0]) (by simp [results, Try.results29, go_sem, x3]) rfl ⟨some ⟨g, 0, none⟩, cap, rfl, ?_, ?_⟩
  · first
      | exact ((HB5.out.setCell (by simp; omega) _).setCell (by simp; omega) _).setCell (by simp; omega) _
      | exact (((HB5.out.setCell (by simp; omega) _).setCell (by simp; omega) _).setCell (by simp; omega) _).drew
  · refine (p2.other (fun b hb _ => ?_)).ndsAt (by rw [leaveS_length]; exact HN.out)
    first
      | exact Below.heap_setCell _ _ _ _ (by show b ≠ w.heap.size + 1 + 1; omega)
      | (rw [heap_drew]; exact Below.heap_setCell _ _ _ _ (by show b ≠ w.heap.size + 1 + 1; omega))
end Go.Proofs.Ytjlapfgghljidaa
