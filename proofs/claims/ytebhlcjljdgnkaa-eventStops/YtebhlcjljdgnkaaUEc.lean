/-
  EventStops: the walks.
-/
import Derived.Test.YtebhlcjljdgnkaaUEaHjEb
import Derived.Test.YtebhlcjljdgnkaaUTdTe
import Derived.Test.YtebhlcjljdgnkaaUHvHwHe
import Derived.Deep.DeepCutAuto
import Derived.BigQuiet
import Derived.Deep.RegionHeld3
namespace Go.Proofs.Ytebhlcjljdgnkaa
open Go.RowKit
set_option linter.unusedVariables false

theorem hrs_noneE {w : World} {la : Option Addr} {L : List Hr} (h : HrsAt w la L) : la = none → L.length = 0 := fun e => by
  by_cases h0 : 0 < L.length
  · obtain ⟨b, o, e2, _⟩ := h 0 h0
    rw [e] at e2
    cases e2
  · omega

theorem own_form {w : World} {B m : Nat} {v : Value} {L : List Hr} (h : w.ownsRow B 41 5 v m (hcells L)) (hL : L.length = m) (hm : 0 < m) : ∃ g cap, v = .slice (some ⟨g, 0, none⟩) m cap ∧ B ≤ g ∧ g < w.heap.size ∧ (∀ o, w.frozen? ⟨g, o, none⟩ = false) ∧ HrsAt w (some ⟨g, 0, none⟩) L := by
  subst hL
  obtain ⟨a, c, e, hA⟩ := hrs_own h
  have hlt := fun k hk => h.lt k hk
  rcases h.2 with ⟨_, e0⟩ | ⟨g, cap, cur, e1, hb, hg, _⟩
  · omega
  · refine ⟨g, cap, e1, hb, (hlt g (by rw [e1]; rfl)).2, fun o => ?_, ?_⟩
    · unfold World.frozen?
      simp [hg]
    · rw [e1] at e
      cases e
      exact hA

theorem hrs_set {w : World} {g kk : Nat} {L : List Hr} {b : Bool} (h : HrsAt w (some ⟨g, 0, none⟩) L) (hk : kk < L.length) : HrsAt (w.setCell ⟨g, kk * 5 + 3, none⟩ (.bool b)) (some ⟨g, 0, none⟩) (setS L kk b) := fun i hi => by
  rw [setS_len] at hi
  obtain ⟨b', o', e, c0, c1, c2, c3, c4⟩ := h i hi
  cases e
  rw [Nat.zero_add] at c0 c1 c2 c3 c4
  refine ⟨g, 0, rfl, ?_⟩
  rw [Nat.zero_add, hr_map (setS_map b hk Hr.pl (fun _ _ => rfl)) i, hr_map (setS_map b hk Hr.dn (fun _ _ => rfl)) i, hr_map (setS_map b hk Hr.on (fun _ _ => rfl)) i, hr_map (setS_map b hk Hr.id (fun _ _ => rfl)) i]
  have other : ∀ {o : Nat} {v : Value}, o ≠ kk * 5 + 3 → w.cell? ⟨g, o, none⟩ = some v → (w.setCell ⟨g, kk * 5 + 3, none⟩ (.bool b)).cell? ⟨g, o, none⟩ = some v := fun ho hc => by
    first
      | (rw [World.cell?_setCell_ne _ _ _ _ (by intro e; cases e; exact ho rfl)]; exact hc)
      | (have hne := ho; go_simp)
  refine ⟨other (by omega) c0, other (by omega) c1, other (by omega) c2, ?_, other (by omega) c4⟩
  by_cases e : i = kk
  · subst e
    have e2 : (hr (setS L i b) i).st = b := by
      unfold setS
      rw [hr_elem (by simp; exact hk)]
      simp [stopH]
    rw [e2]
    first
      | exact World.cell?_setCell_self _ _ _ _ c3
      | go_simp
  · have e2 : (hr (setS L kk b) i).st = (hr L i).st := by
      unfold setS
      rw [hr_elem (by simp; exact hi), hr_elem hi, List.getElem_set_ne (by omega)]
    rw [e2]
    exact other (by omega) c3

theorem cell_kept {w w' : World} {b o : Nat} (h : w'.heap[b]? = w.heap[b]?) : w'.cell? ⟨b, o, none⟩ = w.cell? ⟨b, o, none⟩ := by simp [World.cell?, h]

theorem hrs_other {w : World} {g b o : Nat} {v : Value} {L : List Hr} (h : HrsAt w (some ⟨b, 0, none⟩) L) (hne : b ≠ g) : HrsAt (w.setCell ⟨g, o, none⟩ v) (some ⟨b, 0, none⟩) L := fun i hi => by
  obtain ⟨b', o', e, c0, c1, c2, c3, c4⟩ := h i hi
  cases e
  have hk : (w.setCell ⟨g, o, none⟩ v).heap[b]? = w.heap[b]? := Below.heap_setCell _ _ _ _ hne
  exact ⟨b, 0, rfl, (cell_kept hk).trans c0, (cell_kept hk).trans c1, (cell_kept hk).trans c2, (cell_kept hk).trans c3, (cell_kept hk).trans c4⟩

structure GoodE (w W : World) (a : Option Addr) (n c : Nat) (S : List Nd) (la : Option Addr) (L : List Hr) (p u : Int) (kk ob oc fb q9 m : Nat) : Prop where
  on : HrsAt W (some ⟨ob, 0, none⟩) (setS L kk true)
  off : HrsAt W (some ⟨fb, 0, none⟩) (setS L kk false)
  l : HrsAt W la L
  s : NdsAt W a S
  b : Below w.heap.size w W
  c0 : W.cell? ⟨w.heap.size, 0, none⟩ = some (.slice a n c)
  c1 : W.cell? ⟨w.heap.size + 1, 0, none⟩ = some (.int .i64 p)
  c2 : W.cell? ⟨w.heap.size + 1, 1, none⟩ = some (.int .i64 u)
  c3 : W.cell? ⟨w.heap.size + 1 + 1, 0, none⟩ = some (.int .i64 (kk : Int))
  c9 : W.cell? ⟨q9, 0, none⟩ = some (.slice (some ⟨ob, 0, none⟩) m oc)

theorem GoodE.below {w W W' : World} {a : Option Addr} {n c : Nat} {S : List Nd} {la : Option Addr} {L : List Hr} {p u : Int} {kk ob oc fb q9 m : Nat} (h : GoodE w W a n c S la L p u kk ob oc fb q9 m) (hb : Below W.heap.size W W') : GoodE w W' a n c S la L p u kk ob oc fb q9 m :=
  ⟨h.on.below hb, h.off.below hb, h.l.below hb, h.s.below hb, h.b.trans (hb.mono h.b.size), keepC h.c0 hb, keepC h.c1 hb, keepC h.c2 hb, keepC h.c3 hb, keepC h.c9 hb⟩

theorem good_set {w W : World} {a : Option Addr} {n c : Nat} {S : List Nd} {la : Option Addr} {L : List Hr} {p u : Int} {kk ob oc fb q9 m : Nat} (hk : kk < L.length) (h1 : HrsAt W (some ⟨ob, 0, none⟩) L) (h2 : HrsAt W (some ⟨fb, 0, none⟩) L) (h3 : HrsAt w la L) (h4 : NdsAt w a S) (h5 : Below w.heap.size w W)
    (c0 : W.cell? ⟨w.heap.size, 0, none⟩ = some (.slice a n c)) (c1 : W.cell? ⟨w.heap.size + 1, 0, none⟩ = some (.int .i64 p)) (c2 : W.cell? ⟨w.heap.size + 1, 1, none⟩ = some (.int .i64 u)) (c3 : W.cell? ⟨w.heap.size + 1 + 1, 0, none⟩ = some (.int .i64 (kk : Int))) (c9 : W.cell? ⟨q9, 0, none⟩ = some (.slice (some ⟨ob, 0, none⟩) m oc))
    (e1 : ob ≠ fb) (e2 : w.heap.size + 3 ≤ ob) (e3 : w.heap.size + 3 ≤ fb) (e4 : q9 ≠ ob) (e5 : q9 ≠ fb) :
    GoodE w ((W.setCell ⟨ob, kk * 5 + 3, none⟩ (.bool true)).setCell ⟨fb, kk * 5 + 3, none⟩ (.bool false)) a n c S la L p u kk ob oc fb q9 m ∧ GoodE w ((W.setCell ⟨fb, kk * 5 + 3, none⟩ (.bool false)).setCell ⟨ob, kk * 5 + 3, none⟩ (.bool true)) a n c S la L p u kk ob oc fb q9 m := by
  have hA : Below w.heap.size w ((W.setCell ⟨ob, kk * 5 + 3, none⟩ (.bool true)).setCell ⟨fb, kk * 5 + 3, none⟩ (.bool false)) := (h5.setCell (by show w.heap.size ≤ ob; omega) _).setCell (by show w.heap.size ≤ fb; omega) _
  have hB : Below w.heap.size w ((W.setCell ⟨fb, kk * 5 + 3, none⟩ (.bool false)).setCell ⟨ob, kk * 5 + 3, none⟩ (.bool true)) := (h5.setCell (by show w.heap.size ≤ fb; omega) _).setCell (by show w.heap.size ≤ ob; omega) _
  have kA : ∀ b o, b ≠ ob → b ≠ fb → ((W.setCell ⟨ob, kk * 5 + 3, none⟩ (.bool true)).setCell ⟨fb, kk * 5 + 3, none⟩ (.bool false)).cell? ⟨b, o, none⟩ = W.cell? ⟨b, o, none⟩ := fun b o n1 n2 => cell_kept ((Below.heap_setCell _ _ _ _ n2).trans (Below.heap_setCell _ _ _ _ n1))
  have kB : ∀ b o, b ≠ ob → b ≠ fb → ((W.setCell ⟨fb, kk * 5 + 3, none⟩ (.bool false)).setCell ⟨ob, kk * 5 + 3, none⟩ (.bool true)).cell? ⟨b, o, none⟩ = W.cell? ⟨b, o, none⟩ := fun b o n1 n2 => cell_kept ((Below.heap_setCell _ _ _ _ n1).trans (Below.heap_setCell _ _ _ _ n2))
  exact ⟨⟨hrs_other (hrs_set h1 hk) e1, hrs_set (hrs_other h2 (fun e => e1 e.symm)) hk, h3.below hA, h4.below hA, hA, (kA _ _ (by omega) (by omega)).trans c0, (kA _ _ (by omega) (by omega)).trans c1, (kA _ _ (by omega) (by omega)).trans c2, (kA _ _ (by omega) (by omega)).trans c3, (kA _ _ e4 e5).trans c9⟩,
    ⟨hrs_set (hrs_other h1 e1) hk, hrs_other (hrs_set h2 hk) (fun e => e1 e.symm), h3.below hB, h4.below hB, hB, (kB _ _ (by omega) (by omega)).trans c0, (kB _ _ (by omega) (by omega)).trans c1, (kB _ _ (by omega) (by omega)).trans c2, (kB _ _ (by omega) (by omega)).trans c3, (kB _ _ e4 e5).trans c9⟩⟩

theorem cals_take {w : World} {a : Option Addr} {C : List Cal} (h : CalsAt w a C) (n : Nat) : CalsAt w a (C.take n) := fun i hi => by
  have h1 : i < n := by simp at hi; omega
  have h2 : i < C.length := by simp at hi; omega
  have e : cal (C.take n) i = cal C i := by rw [cal_elem hi, cal_elem h2]; simp
  rw [e]
  exact h i h2

theorem head_slice (ca : Option Addr) (n n' cap : Nat) (h1 : n' ≤ n) (h2 : n ≤ cap) (h3 : cap ≤ 9223372036854775807) (h4 : ca = none → cap = 0) : ∃ c', ∀ W, (Instr.slice 28 (.slice ca n cap) none (some (.int .i64 (n' : Int))) none).run Try.prog W = .ok (.slice ca n' c') W := by
  cases ca with
  | none =>
    have e := h4 rfl
    subst e
    have e1 : n = 0 := by omega
    have e2 : n' = 0 := by omega
    subst e1
    subst e2
    exact ⟨0, fun W => by go_simp⟩
  | some ad =>
    obtain ⟨b, o, s⟩ := ad
    have g1 : (n' : Int) ≤ (cap : Int) := by omega
    have g2 : (0 : Int) ≤ (n' : Int) := by omega
    exact ⟨cap, fun W => by go_simp⟩

set_option maxRecDepth 100000 in
set_option maxHeartbeats 4000000 in
theorem stops_bad (a : Option Addr) (c n : Nat) (S : List Nd) (la : Option Addr) (lc : Nat) (L : List Hr) (k0 p u E : Int) (kk : Nat) (w : World) (hS : NdsAt w a S) (hH : HrsAt w la L) (hm0 : 0 < L.length) (hm1 : L.length * 24 ≤ 140737488355328) (hE0 : E ≠ 0) (hkk : kk < L.length)
    (hat : ∀ w : World, Calls Try.prog 14 #[.int .i64 k0, .int .i64 (L.length : Int)] w fun e w' => e = .returned (.int .i64 (kk : Int)) ∧ w' = w)
    (d : ∀ (bb : Bool) la' lc' W, NdsAt W a S → HrsAt W la' (setS L kk bb) → Calls Try.prog 5 #[.agg #[.slice a n c], .slice la' L.length lc', .agg #[.int .i64 p, .int .i64 u]] W fun e w' => e = .returned (.tuple #[.slice none 0 0, .slice none 0 0, .int .i64 E]) ∧ Below W.heap.size W w') :
    Calls Try.prog 4 #[.agg #[.slice a n c], .slice la L.length lc, .agg #[.int .i64 p, .int .i64 u], .int .i64 k0] w fun e w' => e = .returned (.bool true) ∧ Below w.heap.size w w' := by
  have AT : Hid _ := hat
  have DD : Hid _ := d
  have DP : Hid HappenedOk := happened_ok
  have CLN : Hid (∀ W, HrsAt W la L → Calls _ _ _ _ _) := fun W hW => cloneHr_big la lc L W hm1 hW (hrs_noneE hH)
  have HS : Hid (NdsAt w a S) := hS
  have HL : Hid (HrsAt w la L) := hH
  have e1 : (E == 0) = false := beq_eq_false_iff_ne.2 hE0
  have e2 : decide (E = 0) = false := decide_eq_false hE0
  clear hS hH hat d
  obtain ⟨m, hm⟩ : ∃ z, L.length = z := ⟨_, rfl⟩
  have HM : Hid (L.length = m) := hm
  rw [hm] at hkk AT CLN DD hm0 hm1 ⊢
  clear hm
  have em : ((m : Int) == 0) = false := beq_eq_false_iff_ne.2 (by omega)
  have em2 : decide ((m : Int) = 0) = false := decide_eq_false (by omega)
  go_enter Try.func4, Try.ntmps4
  go_wp2_with fail
  refine Calls.mono (AT.out _) ?_
  rintro e w1 ⟨rfl, hw⟩
  have hw2 := hw.symm
  clear hw
  subst hw2
  go_wp2_with fail
  refine Calls.mono (CLN.out _ (HL.out.below (three_below _ _ _ _))) ?_
  rintro e w2 ⟨v2, rfl, hb, hown⟩
  obtain ⟨ob, oc, rfl, hob, hobl, hof, hoA⟩ := own_form hown HM.out hm0
  have HO2 : Hid (HrsAt w2 (some ⟨ob, 0, none⟩) L) := hoA
  have HOF2 : Hid (∀ o, w2.frozen? ⟨ob, o, none⟩ = false) := hof
  have HW2 : Hid (Below (w.heap.size + 1 + 1 + 1) (((w.alloc (.cells #[.slice a n c] 24)).alloc (.cells #[.int .i64 p, .int .i64 u] 27)).alloc (.cells #[.int .i64 (kk : Int)] 3)) w2) := by
    have h := hb
    simp only [World.size_alloc] at h
    exact h
  have hob3 : w.heap.size + 3 ≤ ob := by simpa using hob
  clear hb hown hoA hof hob
  go_wp2_with fail
  refine Calls.mono (CLN.out _ (HL.out.below ((three_below _ _ _ _).trans (HW2.out.mono (by omega))))) ?_
  rintro e w3 ⟨v3, rfl, hb, hown⟩
  obtain ⟨fb, fc, rfl, hfb, hfbl, hff, hfA⟩ := own_form hown HM.out hm0
  have HB3 : Hid (Below (w.heap.size + 1 + 1 + 1) (((w.alloc (.cells #[.slice a n c] 24)).alloc (.cells #[.int .i64 p, .int .i64 u] 27)).alloc (.cells #[.int .i64 (kk : Int)] 3)) w3) := HW2.out.trans (hb.mono (by have := HW2.out.size; simp only [World.size_alloc] at this; exact this))
  have hs2 : w.heap.size + 1 + 1 + 1 ≤ w2.heap.size := by have := HW2.out.size; simpa using this
  have hs3 := hb.size
  have HBW : Hid (Below w.heap.size w w3) := (three_below _ _ _ _).trans (HB3.out.mono (by omega))
  have k0' : w3.cell? ⟨w.heap.size, 0, none⟩ = some (.slice a n c) := (HB3.out.cell (by show w.heap.size < _; omega)).trans (by go_simp)
  have k1' : w3.cell? ⟨w.heap.size + 1, 0, none⟩ = some (.int .i64 p) := (HB3.out.cell (by show w.heap.size + 1 < _; omega)).trans (by go_simp)
  have k2' : w3.cell? ⟨w.heap.size + 1, 1, none⟩ = some (.int .i64 u) := (HB3.out.cell (by show w.heap.size + 1 < _; omega)).trans (by go_simp)
  have k3' : w3.cell? ⟨w.heap.size + 1 + 1, 0, none⟩ = some (.int .i64 (kk : Int)) := (HB3.out.cell (by show w.heap.size + 1 + 1 < _; omega)).trans (by go_simp)
  have hO3 : HrsAt w3 (some ⟨ob, 0, none⟩) L := HO2.out.below hb
  have hOF3 : ∀ o, w3.frozen? ⟨ob, o, none⟩ = false := fun o => (hb.frozen (by show ob < _; omega)).trans (HOF2.out o)
  obtain ⟨W4, hW4⟩ : ∃ W4, w3.alloc (.cells #[.slice (some ⟨ob, 0, none⟩) m oc] 25) = W4 := ⟨_, rfl⟩
  have hb4 : Below w3.heap.size w3 W4 := by rw [← hW4]; exact one_belowS _ _
  have q4 : W4.heap.size = w3.heap.size + 1 := by rw [← hW4]; simp
  have k9 : W4.cell? ⟨w3.heap.size, 0, none⟩ = some (.slice (some ⟨ob, 0, none⟩) m oc) := by rw [← hW4]; exact alloc_cell w3 _ _ 0 rfl
  have k0 := keepC k0' hb4
  have k1 := keepC k1' hb4
  have k2 := keepC k2' hb4
  have k3 := keepC k3' hb4
  have hO4 := hO3.below hb4
  have hF4 := hfA.below hb4
  have f1 : W4.frozen? ⟨ob, kk * 5 + 3, none⟩ = false := (hb4.frozen (by show ob < _; omega)).trans (hOF3 _)
  have f2 : W4.frozen? ⟨fb, kk * 5 + 3, none⟩ = false := (hb4.frozen (by show fb < _; omega)).trans (hff _)
  obtain ⟨_, _, e, _, _, _, s1, _⟩ := hO4 kk (by rw [HM.out]; exact hkk)
  cases e
  obtain ⟨_, _, e, _, _, _, s2, _⟩ := hF4 kk (by rw [HM.out]; exact hkk)
  cases e
  rw [Nat.zero_add] at s1 s2
  have GG : Hid _ := good_set (w := w) (W := W4) (a := a) (n := n) (c := c) (S := S) (la := la) (L := L) (p := p) (u := u) (kk := kk) (ob := ob) (oc := oc) (fb := fb) (q9 := w3.heap.size) (m := m) (by rw [HM.out]; exact hkk) hO4 hF4 HL.out HS.out (HBW.out.trans (hb4.mono HBW.out.size)) k0 k1 k2 k3 k9 (by omega) (by omega) (by omega) (by omega) (by omega)
  have hkk2 : (kk : Int) < (m : Int) := by omega
  have n1 : ob ≠ fb := by omega
  have n2 : w3.heap.size ≠ ob := by omega
  have n3 : w3.heap.size ≠ fb := by omega
  have n4 : w.heap.size + 1 + 1 ≠ ob := by omega
  have n5 : w.heap.size + 1 + 1 ≠ fb := by omega
  clear hb hown hfA hff hO3 hOF3 k0' k1' k2' k3' hb4 hO4 hF4 k0 k1 k2
  go_upto_region 5 with fail
  try rw [hW4]
  clear hW4
  go_region
  obtain ⟨W5, hW5⟩ : ∃ W5, ((W4.setCell ⟨ob, kk * 5 + 3, none⟩ (.bool true)).setCell ⟨fb, kk * 5 + 3, none⟩ (.bool false)).drew = W5 := ⟨_, rfl⟩
  have G5 : Hid (GoodE w W5 a n c S la L p u kk ob oc fb w3.heap.size m) := by rw [← hW5]; exact GG.out.1.below ((Below.refl _ _).drew)
  rw [hW5]
  clear hW5 GG k3 k9 f1 f2 s1 s2 q4 CLN AT HB3 HBW HW2 HO2 HOF2
  have k0 := G5.out.c0
  have k1 := G5.out.c1
  have k2 := G5.out.c2
  have k9 := G5.out.c9
  go_wp2_with fail
  refine Calls.mono (DD.out true (some ⟨ob, 0, none⟩) oc _ G5.out.s G5.out.on) ?_
  rintro e w6 ⟨rfl, hb⟩
  have G6 : Hid (GoodE w w6 a n c S la L p u kk ob oc fb w3.heap.size m) := G5.out.below hb
  clear hb k0 k1 k2 k9 G5
  have k0 := G6.out.c0
  have k1 := G6.out.c1
  have k2 := G6.out.c2
  have z0 := World.block_lt_of_cell? _ _ k0
  have z1 := World.block_lt_of_cell? _ _ k1
  go_wp2_with fail
  refine Calls.mono (DD.out false (some ⟨fb, 0, none⟩) fc _ (G6.out.below (one_belowS _ _)).s (G6.out.below (one_belowS _ _)).off) ?_
  rintro e w7 ⟨rfl, hb⟩
  have G7 : Hid (GoodE w w7 a n c S la L p u kk ob oc fb w3.heap.size m) := (G6.out.below (one_belowS _ _)).below hb
  clear hb k0 k1 k2 z0 z1 G6
  go_wp2_with fail
  refine Calls.mono (DP.out _) ?_
  rintro e w8 ⟨rfl, hb⟩
  have G8 : Hid (GoodE w w8 a n c S la L p u kk ob oc fb w3.heap.size m) := G7.out.below hb
  clear hb
  go_wp2_with fail
  refine Calls.mono (DP.out _) ?_
  rintro e w9 ⟨rfl, hb⟩
  have G9 : Hid (GoodE w w9 a n c S la L p u kk ob oc fb w3.heap.size m) := G8.out.below hb
  clear hb
  go_wp2_with fail
  go_ret
  exact ⟨rfl, G9.out.b⟩

set_option maxRecDepth 100000 in
set_option maxHeartbeats 8000000 in
theorem stops_ok (a : Option Addr) (c n : Nat) (S : List Nd) (la : Option Addr) (lc : Nat) (L : List Hr) (k0 p u : Int) (kk ts : Nat) (T1 T0 : List Hr) (w : World) (hS : NdsAt w a S) (hH : HrsAt w la L) (hm0 : 0 < L.length) (hm24 : L.length ≤ 24) (hnd : (L.map Hr.id).Nodup) (hkk : kk < L.length)
    (hat : ∀ w : World, Calls Try.prog 14 #[.int .i64 k0, .int .i64 (L.length : Int)] w fun e w' => e = .returned (.int .i64 (kk : Int)) ∧ w' = w)
    (d : ∀ (bb : Bool) la' lc' W, NdsAt W a S → HrsAt W la' (setS L kk bb) → Calls Try.prog 5 #[.agg #[.slice a n c], .slice la' L.length lc', .agg #[.int .i64 p, .int .i64 u]] W fun e w' => ∃ ca cc va vl vc, e = .returned (.tuple #[.slice ca ((if bb then T1 else T0).map (callH S ts)).length cc, .slice va vl vc, .int .i64 0]) ∧ Below W.heap.size W w' ∧ CalsAt w' ca ((if bb then T1 else T0).map (callH S ts)) ∧ (ca = none → cc = 0) ∧ ((if bb then T1 else T0).map (callH S ts)).length ≤ cc ∧ cc ≤ 9223372036854775807)
    (hT : ∀ g ∈ T1, g ∈ setS L kk true) (hTl : T1.length ≤ 1200) (ok : StopOk S ts L T1 T0 (hr L kk)) :
    Calls Try.prog 4 #[.agg #[.slice a n c], .slice la L.length lc, .agg #[.int .i64 p, .int .i64 u], .int .i64 k0] w fun e w' => e = .returned (.bool true) ∧ Below w.heap.size w w' := by
  have AT : Hid _ := hat
  have D1 : Hid _ := d true
  have D0 : Hid _ := d false
  simp only [if_true, if_false, Bool.false_eq_true] at D1 D0
  have DP : Hid HappenedOk := happened_ok
  have CLN : Hid (∀ W, HrsAt W la L → Calls _ _ _ _ _) := fun W hW => cloneHr_big la lc L W (by omega) hW (hrs_noneE hH)
  have cj : ∀ j, j < T1.length → cal (T1.map (callH S ts)) j = callH S ts (hr T1 j) := fun j hj => by
    rw [cal_elem (by simpa using hj), hr_elem hj]
    simp
  have mT : ∀ j, j < T1.length → hr T1 j ∈ T1 := fun j hj => by rw [hr_elem hj]; exact List.getElem_mem hj
  have EQ1 : Hid (∀ (ca ca' : Option Addr) (cc cc' : Nat) (W : World), CalsAt W ca (T1.map (callH S ts)) → CalsAt W ca' (T0.map (callH S ts)) → Calls Try.prog 16 #[.slice ca (T1.map (callH S ts)).length cc, .slice ca' (T1.map (callH S ts)).length cc'] W fun e w' => e = .returned (.bool true) ∧ Below W.heap.size W w') := fun ca ca' cc cc' W h1 h2 =>
    equalCals_same ca ca' cc cc' (T1.map (callH S ts)) W (by simp; omega) h1 (by have h := cals_take h2 (T1.map (callH S ts)).length; rw [← ok.pre] at h; exact h)
  have IX : Hid (∀ (q9 q7 ob oc : Nat) (ca : Option Addr) (cc : Nat) (W : World), W.cell? ⟨q9, 0, none⟩ = some (.slice (some ⟨ob, 0, none⟩) L.length oc) → W.cell? ⟨q7, 0, none⟩ = some (.int .i64 (kk : Int)) → HrsAt W (some ⟨ob, 0, none⟩) (setS L kk true) → CalsAt W ca (T1.map (callH S ts)) → Calls Try.prog 17 #[.slice ca (T1.map (callH S ts)).length cc, .func (.func 18) #[] #[.pointer (some ⟨q9, 0, none⟩), .pointer (some ⟨q7, 0, none⟩)]] W fun e w' => ∃ r : Int, e = .returned (.int .i64 r) ∧ Below W.heap.size W w' ∧ ((r = -1 ∧ T1.map (callH S ts) = T0.map (callH S ts)) ∨ (∃ i : Nat, i < (T1.map (callH S ts)).length ∧ r = i ∧ (hr T1 i).id = (hr L kk).id))) := fun q9 q7 ob oc ca cc W h9 h7 ho hC => by
    obtain ⟨_, _, e, _, _, _, _, o4⟩ := ho kk (by rw [setS_len]; exact hkk)
    cases e
    rw [Nat.zero_add, hr_map (setS_map true hkk Hr.id (fun _ _ => rfl)) kk] at o4
    refine Calls.mono (indexCl_any 18 #[.pointer (some ⟨q9, 0, none⟩), .pointer (some ⟨q7, 0, none⟩)] (fun x => decide (x.id = (hr L kk).id)) ca cc (T1.map (callH S ts)) W (by simp; omega) hC (enters_of Try.func18 (by kernel_rfl) rfl) (stops1_any q9 q7 ob kk L.length oc _ W h9 h7 hkk o4)) ?_
    rintro e w' ⟨r, rfl, hb, hr1⟩
    refine ⟨r, rfl, hb, ?_⟩
    rcases hr1 with ⟨h1, hno⟩ | ⟨i, hi, h1, h2, _⟩
    · refine Or.inl ⟨h1, ok.eq (fun g hg he => ?_)⟩
      obtain ⟨i, hi, e⟩ := List.getElem_of_mem hg
      have h3 := hno i (by simpa using hi)
      rw [cj i hi, hr_elem hi, e] at h3
      have h4 : ¬ (callH S ts g).id = (hr L kk).id := of_decide_eq_false h3
      exact h4 he
    · have hi' : i < T1.length := by simpa using hi
      rw [cj i hi'] at h2
      have h4 : (callH S ts (hr T1 i)).id = (hr L kk).id := of_decide_eq_true h2
      exact Or.inr ⟨i, hi, h1, h4⟩
  have IH : Hid (∀ (q11 pb cb co cc i j : Nat) (W : World), i < j → j < (T1.map (callH S ts)).length → (hr T1 i).id = (hr L kk).id → W.cell? ⟨q11, 0, none⟩ = some (.slice (some ⟨cb, co, none⟩) (T1.map (callH S ts)).length cc) → W.cell? ⟨pb, 0, none⟩ = some (.int .i64 (j : Int)) → CalsAt W (some ⟨cb, co, none⟩) (T1.map (callH S ts)) → HrsAt W la L → Calls Try.prog 8 #[.slice la L.length lc, .func (.func 19) #[] #[.pointer (some ⟨q11, 0, none⟩), .pointer (some ⟨pb, 0, none⟩)]] W fun e w' => ∃ nn : Nat, e = .returned (.int .i64 (nn : Int)) ∧ nn < L.length ∧ (hr L nn).dn = (hr L kk).dn ∧ Below W.heap.size W w') := fun q11 pb cb co cc i j W hij hj hid h11 hpb hC hL => by
    have hj' : j < T1.length := by simpa using hj
    obtain ⟨_, _, e, o0, _⟩ := hC j hj
    cases e
    rw [cj j hj'] at o0
    refine Calls.mono (indexHr_any (fun _ => True) 19 #[.pointer (some ⟨q11, 0, none⟩), .pointer (some ⟨pb, 0, none⟩)] (fun x => decide (x.id = (callH S ts (hr T1 j)).id)) la lc L W (by omega) hL (enters_of Try.func19 (by kernel_rfl) rfl) (fun _ _ => trivial) (stops2_any q11 pb cb co j _ cc _ W h11 hpb hj o0)) ?_
    rintro e w' ⟨r, rfl, hb, hr1⟩
    obtain ⟨mm, hmm, em1, em2⟩ := told_idx hkk (hT _ (mT j hj'))
    rcases hr1 with ⟨h1, hno⟩ | ⟨nn, hn, rfl, h2, _⟩
    · have h3 := hno mm hmm
      have h4 : ¬ (hr L mm).id = (callH S ts (hr T1 j)).id := of_decide_eq_false h3
      exact absurd em1 h4
    · have h3 : (hr L nn).id = (callH S ts (hr T1 j)).id := of_decide_eq_true h2
      exact ⟨nn, rfl, hn, (told_dn hnd hkk (hT _ (mT j hj')) hn h3).trans (ok.rest i j hij hj' hid).2, hb⟩
  have PLS : Hid (∀ i j, i < j → j < (T1.map (callH S ts)).length → (hr T1 i).id = (hr L kk).id → (cal (T1.map (callH S ts)) j).pl = (cal (T1.map (callH S ts)) i).pl) := fun i j hij hj hid => by
    have hj' : j < T1.length := by simpa using hj
    rw [cj j hj', cj i (by omega)]
    exact (ok.rest i j hij hj' hid).1
  have hlen : (T1.map (callH S ts)).length ≤ (T0.map (callH S ts)).length := ok.len
  have hl1 : (T1.map (callH S ts)).length ≤ 1200 := by simpa using hTl
  have HS : Hid (NdsAt w a S) := hS
  have HL : Hid (HrsAt w la L) := hH
  clear hS hH hat d ok cj mT hT hTl hnd
  obtain ⟨m, hm⟩ : ∃ z, L.length = z := ⟨_, rfl⟩
  have HM : Hid (L.length = m) := hm
  rw [hm] at hkk AT CLN D1 D0 IX IH hm0 hm24 ⊢
  clear hm
  obtain ⟨C1, hC1⟩ : ∃ z, T1.map (callH S ts) = z := ⟨_, rfl⟩
  obtain ⟨C0, hC0⟩ : ∃ z, T0.map (callH S ts) = z := ⟨_, rfl⟩
  rw [hC1] at D1 EQ1 IX IH PLS hlen hl1
  rw [hC0] at D0 EQ1 IX hlen
  clear hC1 hC0
  obtain ⟨cl, hcl⟩ : ∃ z, C1.length = z := ⟨_, rfl⟩
  obtain ⟨cl0, hcl0⟩ : ∃ z, C0.length = z := ⟨_, rfl⟩
  have HCL : Hid (C1.length = cl) := hcl
  have HCL0 : Hid (C0.length = cl0) := hcl0
  rw [hcl] at D1 EQ1 IX IH PLS hlen hl1
  rw [hcl0] at D0 hlen
  clear hcl hcl0
  have em : ((m : Int) == 0) = false := beq_eq_false_iff_ne.2 (by omega)
  have em2 : decide ((m : Int) = 0) = false := decide_eq_false (by omega)
  go_enter Try.func4, Try.ntmps4
  go_wp2_with fail
  refine Calls.mono (AT.out _) ?_
  rintro e w1 ⟨rfl, hw⟩
  have hw2 := hw.symm
  clear hw
  subst hw2
  go_wp2_with fail
  refine Calls.mono (CLN.out _ (HL.out.below (three_below _ _ _ _))) ?_
  rintro e w2 ⟨v2, rfl, hb, hown⟩
  obtain ⟨ob, oc, rfl, hob, hobl, hof, hoA⟩ := own_form hown HM.out hm0
  have HO2 : Hid (HrsAt w2 (some ⟨ob, 0, none⟩) L) := hoA
  have HOF2 : Hid (∀ o, w2.frozen? ⟨ob, o, none⟩ = false) := hof
  have HW2 : Hid (Below (w.heap.size + 1 + 1 + 1) (((w.alloc (.cells #[.slice a n c] 24)).alloc (.cells #[.int .i64 p, .int .i64 u] 27)).alloc (.cells #[.int .i64 (kk : Int)] 3)) w2) := by
    have h := hb
    simp only [World.size_alloc] at h
    exact h
  have hob3 : w.heap.size + 3 ≤ ob := by simpa using hob
  clear hb hown hoA hof hob
  go_wp2_with fail
  refine Calls.mono (CLN.out _ (HL.out.below ((three_below _ _ _ _).trans (HW2.out.mono (by omega))))) ?_
  rintro e w3 ⟨v3, rfl, hb, hown⟩
  obtain ⟨fb, fc, rfl, hfb, hfbl, hff, hfA⟩ := own_form hown HM.out hm0
  have HB3 : Hid (Below (w.heap.size + 1 + 1 + 1) (((w.alloc (.cells #[.slice a n c] 24)).alloc (.cells #[.int .i64 p, .int .i64 u] 27)).alloc (.cells #[.int .i64 (kk : Int)] 3)) w3) := HW2.out.trans (hb.mono (by have := HW2.out.size; simp only [World.size_alloc] at this; exact this))
  have hs2 : w.heap.size + 1 + 1 + 1 ≤ w2.heap.size := by have := HW2.out.size; simpa using this
  have hs3 := hb.size
  have HBW : Hid (Below w.heap.size w w3) := (three_below _ _ _ _).trans (HB3.out.mono (by omega))
  have k0' : w3.cell? ⟨w.heap.size, 0, none⟩ = some (.slice a n c) := (HB3.out.cell (by show w.heap.size < _; omega)).trans (by go_simp)
  have k1' : w3.cell? ⟨w.heap.size + 1, 0, none⟩ = some (.int .i64 p) := (HB3.out.cell (by show w.heap.size + 1 < _; omega)).trans (by go_simp)
  have k2' : w3.cell? ⟨w.heap.size + 1, 1, none⟩ = some (.int .i64 u) := (HB3.out.cell (by show w.heap.size + 1 < _; omega)).trans (by go_simp)
  have k3' : w3.cell? ⟨w.heap.size + 1 + 1, 0, none⟩ = some (.int .i64 (kk : Int)) := (HB3.out.cell (by show w.heap.size + 1 + 1 < _; omega)).trans (by go_simp)
  have hO3 : HrsAt w3 (some ⟨ob, 0, none⟩) L := HO2.out.below hb
  have hOF3 : ∀ o, w3.frozen? ⟨ob, o, none⟩ = false := fun o => (hb.frozen (by show ob < _; omega)).trans (HOF2.out o)
  obtain ⟨W4, hW4⟩ : ∃ W4, w3.alloc (.cells #[.slice (some ⟨ob, 0, none⟩) m oc] 25) = W4 := ⟨_, rfl⟩
  have hb4 : Below w3.heap.size w3 W4 := by rw [← hW4]; exact one_belowS _ _
  have q4 : W4.heap.size = w3.heap.size + 1 := by rw [← hW4]; simp
  have k9 : W4.cell? ⟨w3.heap.size, 0, none⟩ = some (.slice (some ⟨ob, 0, none⟩) m oc) := by rw [← hW4]; exact alloc_cell w3 _ _ 0 rfl
  have k0 := keepC k0' hb4
  have k1 := keepC k1' hb4
  have k2 := keepC k2' hb4
  have k3 := keepC k3' hb4
  have hO4 := hO3.below hb4
  have hF4 := hfA.below hb4
  have f1 : W4.frozen? ⟨ob, kk * 5 + 3, none⟩ = false := (hb4.frozen (by show ob < _; omega)).trans (hOF3 _)
  have f2 : W4.frozen? ⟨fb, kk * 5 + 3, none⟩ = false := (hb4.frozen (by show fb < _; omega)).trans (hff _)
  obtain ⟨_, _, e, _, _, _, s1, _⟩ := hO4 kk (by rw [HM.out]; exact hkk)
  cases e
  obtain ⟨_, _, e, _, _, _, s2, _⟩ := hF4 kk (by rw [HM.out]; exact hkk)
  cases e
  rw [Nat.zero_add] at s1 s2
  have GG : Hid _ := good_set (w := w) (W := W4) (a := a) (n := n) (c := c) (S := S) (la := la) (L := L) (p := p) (u := u) (kk := kk) (ob := ob) (oc := oc) (fb := fb) (q9 := w3.heap.size) (m := m) (by rw [HM.out]; exact hkk) hO4 hF4 HL.out HS.out (HBW.out.trans (hb4.mono HBW.out.size)) k0 k1 k2 k3 k9 (by omega) (by omega) (by omega) (by omega) (by omega)
  have hkk2 : (kk : Int) < (m : Int) := by omega
  have n1 : ob ≠ fb := by omega
  have n2 : w3.heap.size ≠ ob := by omega
  have n3 : w3.heap.size ≠ fb := by omega
  have n4 : w.heap.size + 1 + 1 ≠ ob := by omega
  have n5 : w.heap.size + 1 + 1 ≠ fb := by omega
  clear hb hown hfA hff hO3 hOF3 k0' k1' k2' k3' hb4 hO4 hF4 k0 k1 k2
  go_upto_region 5 with fail
  try rw [hW4]
  clear hW4
  go_region
  obtain ⟨W5, hW5⟩ : ∃ W5, ((W4.setCell ⟨ob, kk * 5 + 3, none⟩ (.bool true)).setCell ⟨fb, kk * 5 + 3, none⟩ (.bool false)).drew = W5 := ⟨_, rfl⟩
  have G5 : Hid (GoodE w W5 a n c S la L p u kk ob oc fb w3.heap.size m) := by rw [← hW5]; exact GG.out.1.below ((Below.refl _ _).drew)
  rw [hW5]
  clear hW5 GG k3 k9 f1 f2 s1 s2 q4 CLN AT HB3 HBW HW2 HO2 HOF2
  have k0 := G5.out.c0
  have k1 := G5.out.c1
  have k2 := G5.out.c2
  have k9 := G5.out.c9
  go_wp2_with fail
  refine Calls.mono (D1.out (some ⟨ob, 0, none⟩) oc _ G5.out.s G5.out.on) ?_
  rintro e w6 ⟨ca, cc, va, vl, vc, rfl, hb, hCA, _⟩
  have G6 : Hid (GoodE w w6 a n c S la L p u kk ob oc fb w3.heap.size m) := G5.out.below hb
  have HC6 : Hid (CalsAt w6 ca C1) := hCA
  clear hb k0 k1 k2 k9 G5 hCA
  have k0 := G6.out.c0
  have k1 := G6.out.c1
  have k2 := G6.out.c2
  have z0 := World.block_lt_of_cell? _ _ k0
  have z1 := World.block_lt_of_cell? _ _ k1
  go_wp2_with fail
  refine Calls.mono (D0.out (some ⟨fb, 0, none⟩) fc _ (G6.out.below (one_belowS _ _)).s (G6.out.below (one_belowS _ _)).off) ?_
  rintro e w7 ⟨cb, cd, vb, vm, vd, rfl, hb, hCB, hcn, hcd, hcm⟩
  have G7 : Hid (GoodE w w7 a n c S la L p u kk ob oc fb w3.heap.size m) := (G6.out.below (one_belowS _ _)).below hb
  have b11' := keepC (alloc_cell w6 #[.slice ca cl cc] 28 0 rfl) hb
  have HC7 : Hid (CalsAt w7 ca C1) := (HC6.out.below (one_belowS _ _)).below hb
  have HD7 : Hid (CalsAt w7 cb C0) := hCB
  clear hb k0 k1 k2 z0 z1 G6 HC6 hCB
  go_wp2_with fail
  refine Calls.mono (DP.out _) ?_
  rintro e w8 ⟨rfl, hb⟩
  have G8 : Hid (GoodE w w8 a n c S la L p u kk ob oc fb w3.heap.size m) := G7.out.below hb
  have b11 := keepC b11' hb
  have HC8 : Hid (CalsAt w8 ca C1) := HC7.out.below hb
  have HD8 : Hid (CalsAt w8 cb C0) := HD7.out.below hb
  clear hb b11' G7 HC7 HD7
  have g1 : decide ((cl0 : Int) < (cl : Int)) = false := decide_eq_false (by omega)
  have g2 : decide ((cl : Int) > (cl0 : Int)) = false := decide_eq_false (by omega)
  have g4 : decide (cl0 < cl) = false := decide_eq_false (by omega)
  have g5 : (cl : Int) ≤ (cl0 : Int) := by omega
  obtain ⟨c', hsl⟩ := head_slice cb cl0 cl cd hlen hcd hcm hcn
  have z11 := World.block_lt_of_cell? _ _ b11
  go_wp2_with fail
  go_region_held3 (fun w'' => w''.cell? ⟨w6.heap.size, 0, none⟩ = some (.slice ca cl cc)) (go_keep) (first | (go_at_call 16; refine Calls.mono (EQ1.out ca cb cc c' _ ?h1 ?h2) ?_; (case h1 => exact HC8.out.below ((Below.refl _ w8).drew)); (case h2 => exact HD8.out.below ((Below.refl _ w8).drew)); rintro e w9 ⟨rfl, hb9⟩; have HB89 : Hid (Below w8.heap.size w8 w9) := ((Below.refl w8.heap.size w8).drew).trans hb9; clear hb9; have d11 := keepC b11 HB89.out))
  have G9 : Hid (GoodE w w9 a n c S la L p u kk ob oc fb w3.heap.size m) := G8.out.below HB89.out
  have HC9 : Hid (CalsAt w9 ca C1) := HC8.out.below HB89.out
  have HD9 : Hid (CalsAt w9 cb C0) := HD8.out.below HB89.out
  clear b11 G8 HC8 HD8 z11 hsl
  go_wp2_with fail
  refine Calls.mono (IX.out w3.heap.size (w.heap.size + 1 + 1) ob oc ca cc _ G9.out.c9 G9.out.c3 G9.out.on HC9.out) ?_
  rintro e w10 ⟨r, rfl, hb, hr1⟩
  have GA : Hid (GoodE w w10 a n c S la L p u kk ob oc fb w3.heap.size m) := G9.out.below hb
  have HCa : Hid (CalsAt w10 ca C1) := HC9.out.below hb
  have HDa : Hid (CalsAt w10 cb C0) := HD9.out.below hb
  have a11 := keepC d11 hb
  have z11 := World.block_lt_of_cell? _ _ a11
  clear hb d11 G9 HC9 HD9
  rcases hr1 with ⟨rfl, hEQ⟩ | ⟨i, hi, rfl, hid⟩
  · have HEQ : Hid (C1 = C0) := hEQ
    clear hEQ
    have ecl : cl = cl0 := by rw [← HCL.out, ← HCL0.out, HEQ.out]
    go_wp2_with fail
    go_loopg [18] 0 (fun g s18 wr => s18 = .pointer (some ⟨w10.heap.size, 0, none⟩) ∧ wr = w10.alloc (.cells #[.int .i64 0] 3))
    case atStart => exact ⟨rfl, rfl⟩
    case round =>
      obtain ⟨rfl, hw⟩ := hrel
      subst hw
      subst ecl
      have HCb : Hid (CalsAt (w10.alloc (.cells #[.int .i64 0] 3)) ca C1) := HCa.out.below (one_belowS _ _)
      have HDb : Hid (CalsAt (w10.alloc (.cells #[.int .i64 0] 3)) cb C0) := HDa.out.below (one_belowS _ _)
      go_wp2_with fail
      refine Calls.mono (EQ1.out ca cb cc cd _ HCb.out HDb.out) ?_
      rintro e w11 ⟨rfl, hb⟩
      have GB : Hid (GoodE w w11 a n c S la L p u kk ob oc fb w3.heap.size m) := (GA.out.below (one_belowS _ _)).below hb
      clear hb
      go_wp2_with fail
      go_ret
      exact ⟨rfl, GB.out.b⟩
  · obtain ⟨ab, ao, ea, i0, i1, _⟩ := HCa.out i (by rw [HCL.out]; exact hi)
    subst ea
    have HI : Hid ((hr T1 i).id = (hr L kk).id) := hid
    clear hid
    have hi1 : (0 : Int) ≤ (i : Int) := by omega
    have hd1 : decide ((0 : Int) ≤ (i : Int)) = true := decide_eq_true hi1
    have hd2 : decide ((i : Int) ≥ 0) = true := decide_eq_true hi1
    have hi2 : (i : Int) < (cl : Int) := by omega
    have W0 : Hid (∀ o1 : Obj, Below w10.heap.size w10 (w10.alloc o1)) := fun o1 => one_belowS _ _
    clear i0 i1
    go_wp2_with fail
    go_loopg [18] cl (fun g s18 wr => ∃ j pb : Nat, i + 1 ≤ j ∧ j ≤ cl ∧ cl - j ≤ g ∧ s18 = .pointer (some ⟨pb, 0, none⟩) ∧ w10.heap.size ≤ pb ∧ wr.cell? ⟨pb, 0, none⟩ = some (.int .i64 (j : Int)) ∧ wr.frozen? ⟨pb, 0, none⟩ = false ∧ Hid (Below w10.heap.size w10 wr))
    case atStart => exact ⟨i + 1, w10.heap.size, by omega, by omega, by omega, rfl, Nat.le_refl _, by go_simp, by go_simp, W0.out _⟩
    case round =>
      obtain ⟨j, pb, hj0, hj1, hg, rfl, hpb, cpb, fpb, HBr⟩ := hrel
      have n11 := keepC a11 HBr.out
      have z1 := World.block_lt_of_cell? _ _ cpb
      have z2 := World.block_lt_of_cell? _ _ n11
      have nep : pb ≠ w6.heap.size := by omega
      by_cases hlt : j < cl
      · have hlt2 : (j : Int) < (cl : Int) := by omega
        have hjp : (0 : Int) ≤ (j : Int) := by omega
        have IHj : Hid _ := IH.out w6.heap.size pb ab ao cc i j _ (by omega) hlt HI.out n11 cpb (HCa.out.below HBr.out) (GA.out.below HBr.out).l
        clear a11 z11
        go_wp2_with fail
        refine Calls.mono IHj.out ?_
        rintro e w11 ⟨nn, rfl, hnn, hdn, hb⟩
        have HB11 : Hid (Below w10.heap.size w10 w11) := HBr.out.trans (hb.mono HBr.out.size)
        have m11 := keepC n11 hb
        have mpb := keepC cpb hb
        have mfz : w11.frozen? ⟨pb, 0, none⟩ = false := (hb.frozen (by exact z1)).trans fpb
        have G11 : Hid (GoodE w w11 a n c S la L p u kk ob oc fb w3.heap.size m) := GA.out.below HB11.out
        have mk := G11.out.c3
        obtain ⟨_, _, ei, _, pi, _⟩ := (HCa.out.below HB11.out) i (by rw [HCL.out]; exact hi)
        cases ei
        obtain ⟨_, _, ej, _, pj, _⟩ := (HCa.out.below HB11.out) j (by rw [HCL.out]; exact hlt)
        cases ej
        rw [PLS.out i j (by omega) hlt HI.out] at pj
        obtain ⟨lb, lo, el, _, dk, _⟩ := G11.out.l kk (by rw [HM.out]; exact hkk)
        subst el
        obtain ⟨_, _, en, _, dn', _⟩ := G11.out.l nn (by rw [HM.out]; exact hnn)
        cases en
        rw [hdn] at dn'
        have hnn2 : (nn : Int) < (m : Int) := by omega
        have hnn0 : (0 : Int) ≤ (nn : Int) := by omega
        clear hb hdn n11 cpb fpb z1 z2 IHj
        generalize (cal C1 i).pl = xp at *
        generalize (hr L kk).dn = xd at *
        have y1 := World.block_lt_of_cell? _ _ mpb
        have y2 := World.block_lt_of_cell? _ _ m11
        have NB : Hid (∀ nq (o1 : Obj), Below w10.heap.size w10 ((w11.drewN nq).alloc o1)) := fun nq o1 => (Below.drewNs HB11.out nq).alloc HB11.out.size o1
        have hs11 := HB11.out.size
        go_wp2_with fail
        go_big_quiet (fail)
        obtain ⟨W12, hW⟩ : ∃ W12, w11.drewN nq = W12 := ⟨_, rfl⟩
        have r1 : W12.cell? ⟨pb, 0, none⟩ = some (.int .i64 (j : Int)) := by rw [← hW]; exact mpb
        have HB12 : Hid (Below w10.heap.size w10 W12) := by rw [← hW]; exact Below.drewNs HB11.out nq
        have r2 := World.block_lt_of_cell? _ _ r1
        have hs12 := HB12.out.size
        have NB2 : Hid (∀ o1 : Obj, Below w10.heap.size w10 (W12.alloc o1)) := fun o1 => HB12.out.alloc HB12.out.size o1
        rw [hW]
        clear hW m11 mpb mfz mk pi pj dk dn' y1 y2 NB HB11 G11 hs11
        go_wp2_with fail
        go_roundg (cl - (j + 1))
        case measure => omega
        case rel => exact ⟨j + 1, W12.heap.size, by omega, by omega, by omega, rfl, by omega, by go_simp, by go_simp, NB2.out _⟩
      · have hje : j = cl := by omega
        subst hje
        have GB : Hid (GoodE w wr a n c S la L p u kk ob oc fb w3.heap.size m) := GA.out.below HBr.out
        clear a11 z11
        go_wp2_with fail
        go_ret
        exact ⟨rfl, GB.out.b⟩
end Go.Proofs.Ytebhlcjljdgnkaa
