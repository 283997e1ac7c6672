/-
  The reference's PortShut, PortPassed.
-/
import Derived.Test.YtgjfmepbphfjoaaUPe
namespace Go.Proofs.Ytgjfmepbphfjoaa
open Go.RowKit Go.ChangeShapes Go.WideShapes
set_option linter.unusedVariables false

theorem row_some {w : World} {B t n size : Nat} {v : Value} {xs : List Value} (h : w.ownsRow B t size v n xs) (hn : 0 < n) : ∃ g cap, v = .slice (some ⟨g, 0, none⟩) n cap ∧ B ≤ g ∧ g < w.heap.size := by
  rcases h.2 with ⟨e, e0⟩ | ⟨g, cap, cur, e, _⟩
  · omega
  · exact ⟨g, cap, e, (h.lt g (by rw [e]; rfl)).1, (h.lt g (by rw [e]; rfl)).2⟩
theorem thenE_zero (H : Int) : thenE H 0 = H := by
  unfold thenE
  by_cases h : H = 0
  · rw [if_neg (not_not_intro h), h]
  · rw [if_pos h]
/-- A field of a port of the row is set. -/
theorem row_put {w : World} {B g n cap : Nat} {L : List Pt} {K : Nat → Value} (h : w.ownsRow B 47 5 (.slice (some ⟨g, 0, none⟩) n cap) n (pcells L K)) {k f : Nat} {u v : Value} {x : Pt} (hk : k < L.length) (hf : f < 5) (hx : pcell x v = (pcell (pt L k) (K k)).set f u) :
    (w.setCell ⟨g, k * 5 + f, none⟩ u).ownsRow B 47 5 (.slice (some ⟨g, 0, none⟩) n cap) n (pcells (L.set k x) (fun i => if i = k then v else K i)) := by
  have := (h.stored (k * 5 + f) u).1
  rwa [pcells_set hk hf hx] at this
theorem row_cells {w : World} {B g n cap : Nat} {L : List Pt} {K : Nat → Value} (h : w.ownsRow B 47 5 (.slice (some ⟨g, 0, none⟩) n cap) n (pcells L K)) (hn : L.length = n) {k f : Nat} (hk : k < n) (hf : f < 5) : w.cell? ⟨g, k * 5 + f, none⟩ = (pcell (pt L k) (K k))[f]? := by
  rw [h.cellAt (k * 5 + f) (by omega), pcells_at (by omega) hf]
theorem set_lone {L : List Pt} {k : Nat} {x : Pt} (hk : k < L.length) : pt (L.set k x) k = x := by rw [pt_set hk, if_pos rfl]

set_option maxRecDepth 100000 in
set_option maxHeartbeats 2000000 in
theorem shut1_any (w0 w : World) (h0 : w0.heap.size ≤ w.heap.size) (kb : Nat) (L : List Pt) (K : Nat → Value) (k : Nat) (hk : k < L.length) (hN : L.length ≤ 12) (hkb : w.cell? ⟨kb, 0, none⟩ = some (.int .i64 (k : Int))) (hgr : ∀ i, i < L.length → GrsV w0 (K i) (pt L i).cm) (hw : Below w0.heap.size w0 w) :
    ∀ (W : World) (v : Value), Below w.heap.size w W → W.ownsRow w.heap.size 47 5 v L.length (pcells L K) → Calls Try.prog 35 (#[v] ++ #[.pointer (some ⟨kb, 0, none⟩)]) W fun e w' => e = .returned (.int .i64 (0 : Int)) ∧ Below w0.heap.size W w' ∧ ((0 : Int) ≠ 0 → Below W.heap.size W w') ∧ ((0 : Int) = 0 → True ∧ ∃ K', ∀ w'', BoxEq w0.heap.size w.heap.size w' w'' → w''.ownsRow w.heap.size 47 5 v (shutL L k).length (pcells (shutL L k) K') ∧ ∀ i, i < (shutL L k).length → GrsV w'' (K' i) (pt (shutL L k) i).cm) := by
  intro W v hb hrow
  obtain ⟨g, cap, rfl, hg1, hg2⟩ := row_some hrow (by omega)
  have hk2 : (k : Int) < (L.length : Int) := by omega
  have kc := keepC hkb hb
  have hkl : kb < w.heap.size := World.block_lt_of_cell? _ _ hkb
  have hne : kb ≠ g := by omega
  have z0 := row_cells hrow rfl hk (show 3 < 5 by omega)
  have z1 := row_cells hrow rfl hk (show 4 < 5 by omega)
  have y0 : W.cell? ⟨g, k * 5 + 3, none⟩ = some (K k) := z0
  have y1 : W.cell? ⟨g, k * 5 + 4, none⟩ = some (.bool (pt L k).s) := z1
  have f3 := hrow.frozenAt (k * 5 + 3)
  have f4 := hrow.frozenAt (k * 5 + 4)
  have ML : (shutL L k).length = L.length := by unfold shutL; simp
  have R1 : Hid (((W.setCell ⟨g, k * 5 + 4, none⟩ (.bool true)).setCell ⟨g, k * 5 + 3, none⟩ (.slice none 0 0)).ownsRow w.heap.size 47 5 (.slice (some ⟨g, 0, none⟩) L.length cap) L.length (pcells (shutL L k) (fun i => if i = k then .slice none 0 0 else K i))) := by
    have a1 := row_put hrow (k := k) (f := 4) (u := .bool true) (v := K k) (x := { pt L k with s := true }) hk (by omega) rfl
    have a2 := row_put a1 (k := k) (f := 3) (u := .slice none 0 0) (v := .slice none 0 0) (x := { pt L k with s := true, cm := [] }) (by simpa using hk) (by omega) (by rw [set_lone hk]; simp only [if_true]; rfl)
    rw [List.set_set] at a2
    have e : (fun i => if i = k then Value.slice none 0 0 else (if i = k then K k else K i)) = (fun i => if i = k then .slice none 0 0 else K i) := funext fun i => by by_cases h : i = k <;> simp [h]
    rw [e] at a2
    unfold shutL
    rw [Int.toNat_natCast]
    exact a2
  have GR : Hid (∀ w', Below w0.heap.size w0 w' → ∀ i, i < (shutL L k).length → GrsV w' (if i = k then .slice none 0 0 else K i) (pt (shutL L k) i).cm) := fun w' hw i hi => by
    rw [ML] at hi
    unfold shutL
    rw [Int.toNat_natCast, pt_set hi]
    by_cases e : i = k
    · rw [if_pos e, if_pos e.symm]
      exact GrsV.nil w'
    · rw [if_neg e, if_neg (fun h => e h.symm)]
      exact (hgr i hi).below hw
  have HML : Hid ((shutL L k).length = L.length) := ML
  have HB : Hid (Below w.heap.size w W) := hb
  have HW0 : Hid (Below w0.heap.size w0 W) := hw.trans (hb.mono h0)
  clear hrow hkb hgr z0 z1 ML hb
  generalize shutL L k = M at *
  generalize (pt L k).s = xs at *
  generalize K k = kv at *
  obtain ⟨n, hn⟩ : ∃ z, L.length = z := ⟨_, rfl⟩
  rw [hn] at hk2 R1 HML hk hN ⊢
  clear hn
  go_enter Try.func35, Try.ntmps35
  go_wp2_with fail
  go_region
  have HB3 : Hid (Below w0.heap.size W ((W.setCell ⟨g, k * 5 + 4, none⟩ (.bool true)).setCell ⟨g, k * 5 + 3, none⟩ (.slice none 0 0)).drew) := (((Below.refl _ _).setCell (show w0.heap.size ≤ g by omega) _).setCell (show w0.heap.size ≤ g by omega) _).drew
  have HB2 : Hid (Below w0.heap.size w0 ((W.setCell ⟨g, k * 5 + 4, none⟩ (.bool true)).setCell ⟨g, k * 5 + 3, none⟩ (.slice none 0 0)).drew) := HW0.out.trans HB3.out
  clear y0 y1 f3 f4 kc
  go_wp2_with fail
  go_ret
  refine ⟨rfl, HB3.out, fun h => absurd rfl h, fun _ => ⟨trivial, _, fun w'' hbx => ⟨?_, GR.out _ (below_box HB2.out hbx)⟩⟩⟩
  rw [HML.out]
  exact row_box R1.out.drew (Nat.le_refl _) hbx

set_option maxRecDepth 100000 in
set_option maxHeartbeats 2000000 in
theorem rshut_any (a : Option Addr) (c : Nat) (L : List Pt) (Fr k o t : Int) (w : World) (hN : L.length ≤ 9223372036854775807) (hB : BigP L) (hL : PtsAt w a L) :
    Calls Try.prog 14 #[.slice a L.length c, .int .i64 Fr, .int .i64 k, .int .i64 o, .int .i64 t] w fun e w' => ∃ va vc, e = .returned (.tuple #[.slice va (resShut L Fr k o t).length vc, .int .i64 (heldPE L Fr k o t)]) ∧ Below w.heap.size w w' ∧ PtsAt w' va (resShut L Fr k o t) := by
  have D : Hid (∀ o1 : Obj, (w.alloc o1).cell? ⟨w.heap.size, 0, none⟩ = some (.int .i64 k) → Calls Try.prog 30 #[.slice a L.length c, .int .i64 Fr, .int .i64 k, .int .i64 o, .int .i64 t, .func (.func 35) #[] #[.pointer (some ⟨w.heap.size, 0, none⟩)]] (w.alloc o1) fun e w' => ∃ va vc, e = .returned (.tuple #[.slice va (resShut L Fr k o t).length vc, .int .i64 (heldPE L Fr k o t)]) ∧ Below w.heap.size w w' ∧ PtsAt w' va (resShut L Fr k o t)) := fun o1 hc => by
    have h := changed_any 35 #[.pointer (some ⟨w.heap.size, 0, none⟩)] (enters_of Try.func35 (by kernel_rfl) rfl) w a c L Fr k o t 0 (shutL L k) (fun _ => True) (w.alloc o1) hN hB hL (one_belowS _ _) (fun hH => by
      obtain ⟨R, q, rfl, hq, _⟩ := heldP_zero hH
      exact shut1_any w (w.alloc o1) (by simp) w.heap.size L (kOf w a) q hq R.few hc (k_grs hL) (one_belowS _ _))
    rw [thenE_zero] at h
    refine h.mono ?_
    rintro e w' ⟨va, vc, e1, hb, _, _, hp⟩
    exact ⟨va, vc, e1, hb, hp _ (BoxEq.refl _ _ _)⟩
  clear hL hB
  generalize resShut L Fr k o t = M at *
  generalize heldPE L Fr k o t = E at *
  generalize L.length = n at *
  go_enter Try.func14, Try.ntmps14
  go_wp2_with fail
  refine Calls.mono (D.out _ (by go_simp)) ?_
  rintro e w1 ⟨va, vc, rfl, hb, hp⟩
  have HB : Hid (Below w.heap.size w w1) := hb
  have HP : Hid (PtsAt w1 va M) := hp
  clear hb hp D
  obtain ⟨ml, hml⟩ : ∃ z, M.length = z := ⟨_, rfl⟩
  have HML : Hid (M.length = ml) := hml
  rw [hml]
  clear hml
  go_wp2_with fail
  exact bodyPost_ret (v := .tuple #[.slice va ml vc, .int .i64 E]) (by simp [results, Try.results14, go_sem]) rfl (by first | exact ⟨va, vc, by rw [HML.out], HB.out, HP.out⟩ | exact ⟨va, ⟨vc, by rw [HML.out]⟩, HB.out, HP.out⟩)

/-- What is wrong with whom it is passed on to. -/
def passE2 (Fr to' th : Int) : Int := if ¬ (0 ≤ to' ∧ to' < Fr) then 4 else if ¬ (0 ≤ th ∧ th ≤ 1000) then 2 else 0
theorem pass_then (L : List Pt) (Fr k o t to' th : Int) : passE L Fr k o t to' th = thenE (heldPE L Fr k o t) (passE2 Fr to' th) := rfl

set_option maxRecDepth 100000 in
set_option maxHeartbeats 2000000 in
theorem pass1_any (w0 w : World) (h0 : w0.heap.size ≤ w.heap.size) (tb fb hb' kb : Nat) (L : List Pt) (K : Nat → Value) (k : Nat) (Fr to' th : Int) (hk : k < L.length) (hN : L.length ≤ 12) (htb : w.cell? ⟨tb, 0, none⟩ = some (.int .i64 to')) (hfb : w.cell? ⟨fb, 0, none⟩ = some (.int .i64 Fr)) (hhb : w.cell? ⟨hb', 0, none⟩ = some (.int .i64 th)) (hkb : w.cell? ⟨kb, 0, none⟩ = some (.int .i64 (k : Int))) (hgr : ∀ i, i < L.length → GrsV w0 (K i) (pt L i).cm) (hw : Below w0.heap.size w0 w) :
    ∀ (W : World) (v : Value), Below w.heap.size w W → W.ownsRow w.heap.size 47 5 v L.length (pcells L K) → Calls Try.prog 31 (#[v] ++ #[.pointer (some ⟨tb, 0, none⟩), .pointer (some ⟨fb, 0, none⟩), .pointer (some ⟨hb', 0, none⟩), .pointer (some ⟨kb, 0, none⟩)]) W fun e w' => e = .returned (.int .i64 (passE2 Fr to' th)) ∧ Below w0.heap.size W w' ∧ ((passE2 Fr to' th) ≠ 0 → Below W.heap.size W w') ∧ ((passE2 Fr to' th) = 0 → True ∧ ∃ K', ∀ w'', BoxEq w0.heap.size w.heap.size w' w'' → w''.ownsRow w.heap.size 47 5 v (passL L k to' th).length (pcells (passL L k to' th) K') ∧ ∀ i, i < (passL L k to' th).length → GrsV w'' (K' i) (pt (passL L k to' th) i).cm) := by
  intro W v hb hrow
  obtain ⟨g, cap, rfl, hg1, hg2⟩ := row_some hrow (by omega)
  have hk2 : (k : Int) < (L.length : Int) := by omega
  have kc := keepC hkb hb
  have tc := keepC htb hb
  have fc := keepC hfb hb
  have hc := keepC hhb hb
  have l1 : kb < w.heap.size := World.block_lt_of_cell? _ _ hkb
  have l2 : tb < w.heap.size := World.block_lt_of_cell? _ _ htb
  have l3 : fb < w.heap.size := World.block_lt_of_cell? _ _ hfb
  have l4 : hb' < w.heap.size := World.block_lt_of_cell? _ _ hhb
  have n1 : kb ≠ g := by omega
  have n2 : tb ≠ g := by omega
  have n3 : fb ≠ g := by omega
  have n4 : hb' ≠ g := by omega
  have z0 := row_cells hrow rfl hk (show 0 < 5 by omega)
  have z1 := row_cells hrow rfl hk (show 1 < 5 by omega)
  have y0 : W.cell? ⟨g, k * 5, none⟩ = some (.int .i64 (pt L k).o) := z0
  have y1 : W.cell? ⟨g, k * 5 + 1, none⟩ = some (.int .i64 (pt L k).t) := z1
  have f0 := hrow.frozenAt (k * 5)
  have f1 := hrow.frozenAt (k * 5 + 1)
  have ML : (passL L k to' th).length = L.length := by unfold passL; simp
  have R1 : Hid (((W.setCell ⟨g, k * 5, none⟩ (.int .i64 to')).setCell ⟨g, k * 5 + 1, none⟩ (.int .i64 th)).ownsRow w.heap.size 47 5 (.slice (some ⟨g, 0, none⟩) L.length cap) L.length (pcells (passL L k to' th) (fun i => if i = k then K k else K i))) := by
    have a1 := row_put hrow (k := k) (f := 0) (u := .int .i64 to') (v := K k) (x := { pt L k with o := to' }) hk (by omega) rfl
    have a2 := row_put a1 (k := k) (f := 1) (u := .int .i64 th) (v := K k) (x := { pt L k with o := to', t := th }) (by simpa using hk) (by omega) (by rw [set_lone hk]; simp only [if_true]; rfl)
    rw [List.set_set] at a2
    have e : (fun i => if i = k then K k else (if i = k then K k else K i)) = (fun i => if i = k then K k else K i) := funext fun i => by by_cases h : i = k <;> simp [h]
    rw [e] at a2
    unfold passL
    rw [Int.toNat_natCast]
    exact a2
  have GR : Hid (∀ w', Below w0.heap.size w0 w' → ∀ i, i < (passL L k to' th).length → GrsV w' (if i = k then K k else K i) (pt (passL L k to' th) i).cm) := fun w' hw i hi => by
    rw [ML] at hi
    unfold passL
    rw [Int.toNat_natCast, pt_set hi]
    by_cases e : i = k
    · rw [if_pos e, if_pos e.symm]
      exact (hgr k hk).below hw
    · rw [if_neg e, if_neg (fun h => e h.symm)]
      exact (hgr i hi).below hw
  have HML : Hid ((passL L k to' th).length = L.length) := ML
  have HB : Hid (Below w.heap.size w W) := hb
  have HW0 : Hid (Below w0.heap.size w0 W) := hw.trans (hb.mono h0)
  have DB : Hid (∀ W, _) := fun W => rbelowP_any to' Fr W
  have DI : Hid (∀ W, _) := fun W => rin_anyC th 0 1000 W
  clear hrow hkb hgr z0 z1 ML hb htb hfb hhb
  generalize passL L k to' th = M at *
  generalize (pt L k).o = xo at *
  generalize (pt L k).t = xt at *
  generalize K k = kv at *
  obtain ⟨n, hn⟩ : ∃ z, L.length = z := ⟨_, rfl⟩
  rw [hn] at hk2 R1 HML hk hN ⊢
  clear hn
  unfold passE2
  by_cases e1 : 0 ≤ to' ∧ to' < Fr
  · rw [decide_eq_true e1] at DB
    rw [if_neg (not_not_intro e1)]
    by_cases e2 : 0 ≤ th ∧ th ≤ 1000
    · rw [decide_eq_true e2] at DI
      rw [if_neg (not_not_intro e2)]
      clear e1 e2
      go_enter Try.func31, Try.ntmps31
      go_wp2_with fail
      refine Calls.mono (DB.out _) ?_
      rintro e w2 ⟨rfl, hw2⟩
      subst hw2
      go_wp2_with fail
      refine Calls.mono (DI.out _) ?_
      rintro e w3 ⟨rfl, hw3⟩
      subst hw3
      go_wp2_with fail
      go_region
      have HB3 : Hid (Below w0.heap.size w3 ((w3.setCell ⟨g, k * 5, none⟩ (.int .i64 to')).setCell ⟨g, k * 5 + 1, none⟩ (.int .i64 th)).drew) := (((Below.refl _ _).setCell (show w0.heap.size ≤ g by omega) _).setCell (show w0.heap.size ≤ g by omega) _).drew
      have HB2 : Hid (Below w0.heap.size w0 ((w3.setCell ⟨g, k * 5, none⟩ (.int .i64 to')).setCell ⟨g, k * 5 + 1, none⟩ (.int .i64 th)).drew) := HW0.out.trans HB3.out
      clear y0 y1 f0 f1 kc tc fc hc
      go_wp2_with fail
      go_ret
      refine ⟨rfl, HB3.out, fun h => absurd rfl h, fun _ => ⟨trivial, _, fun w'' hbx => ⟨?_, GR.out _ (below_box HB2.out hbx)⟩⟩⟩
      rw [HML.out]
      exact row_box R1.out.drew (Nat.le_refl _) hbx
    · rw [decide_eq_false e2] at DI
      rw [if_pos e2]
      clear e1 e2 R1 GR
      go_enter Try.func31, Try.ntmps31
      go_wp2_with fail
      refine Calls.mono (DB.out _) ?_
      rintro e w2 ⟨rfl, hw2⟩
      subst hw2
      go_wp2_with fail
      refine Calls.mono (DI.out _) ?_
      rintro e w3 ⟨rfl, hw3⟩
      subst hw3
      go_wp2_with fail
      go_ret
      exact ⟨rfl, Below.refl _ _, fun _ => Below.refl _ _, fun h => by cases h⟩
  · rw [decide_eq_false e1] at DB
    rw [if_pos e1]
    clear e1 R1 GR
    go_enter Try.func31, Try.ntmps31
    go_wp2_with fail
    refine Calls.mono (DB.out _) ?_
    rintro e w2 ⟨rfl, hw2⟩
    subst hw2
    go_wp2_with fail
    go_ret
    exact ⟨rfl, Below.refl _ _, fun _ => Below.refl _ _, fun h => by cases h⟩

theorem four_belowP (w : World) (o1 o2 o3 o4 : Obj) : Below w.heap.size w ((((w.alloc o1).alloc o2).alloc o3).alloc o4) := (((one_belowS w o1).alloc (by simp) o2).alloc (by simp; omega) o3).alloc (by simp; omega) o4

set_option maxRecDepth 100000 in
set_option maxHeartbeats 2000000 in
theorem rpass_any (a : Option Addr) (c : Nat) (L : List Pt) (Fr k o t to' th : Int) (w : World) (hN : L.length ≤ 9223372036854775807) (hB : BigP L) (hL : PtsAt w a L) :
    Calls Try.prog 11 #[.slice a L.length c, .int .i64 Fr, .int .i64 k, .int .i64 o, .int .i64 t, .int .i64 to', .int .i64 th] w fun e w' => ∃ va vc, e = .returned (.tuple #[.slice va (resPass L Fr k o t to' th).length vc, .int .i64 (passE L Fr k o t to' th)]) ∧ Below w.heap.size w w' ∧ PtsAt w' va (resPass L Fr k o t to' th) := by
  have D : Hid (∀ o1 o2 o3 o4 : Obj, ((((w.alloc o1).alloc o2).alloc o3).alloc o4).cell? ⟨w.heap.size, 0, none⟩ = some (.int .i64 Fr) → ((((w.alloc o1).alloc o2).alloc o3).alloc o4).cell? ⟨w.heap.size + 1, 0, none⟩ = some (.int .i64 k) → ((((w.alloc o1).alloc o2).alloc o3).alloc o4).cell? ⟨w.heap.size + 1 + 1, 0, none⟩ = some (.int .i64 to') → ((((w.alloc o1).alloc o2).alloc o3).alloc o4).cell? ⟨w.heap.size + 1 + 1 + 1, 0, none⟩ = some (.int .i64 th) → Calls Try.prog 30 #[.slice a L.length c, .int .i64 Fr, .int .i64 k, .int .i64 o, .int .i64 t, .func (.func 31) #[] #[.pointer (some ⟨w.heap.size + 1 + 1, 0, none⟩), .pointer (some ⟨w.heap.size, 0, none⟩), .pointer (some ⟨w.heap.size + 1 + 1 + 1, 0, none⟩), .pointer (some ⟨w.heap.size + 1, 0, none⟩)]] ((((w.alloc o1).alloc o2).alloc o3).alloc o4) fun e w' => ∃ va vc, e = .returned (.tuple #[.slice va (resPass L Fr k o t to' th).length vc, .int .i64 (passE L Fr k o t to' th)]) ∧ Below w.heap.size w w' ∧ PtsAt w' va (resPass L Fr k o t to' th)) := fun o1 o2 o3 o4 hc1 hc2 hc3 hc4 => by
    have h := changed_any 31 #[.pointer (some ⟨w.heap.size + 1 + 1, 0, none⟩), .pointer (some ⟨w.heap.size, 0, none⟩), .pointer (some ⟨w.heap.size + 1 + 1 + 1, 0, none⟩), .pointer (some ⟨w.heap.size + 1, 0, none⟩)] (enters_of Try.func31 (by kernel_rfl) rfl) w a c L Fr k o t (passE2 Fr to' th) (passL L k to' th) (fun _ => True) ((((w.alloc o1).alloc o2).alloc o3).alloc o4) hN hB hL (four_belowP _ _ _ _ _) (fun hH => by
      obtain ⟨R, q, rfl, hq, _⟩ := heldP_zero hH
      exact pass1_any w ((((w.alloc o1).alloc o2).alloc o3).alloc o4) (four_belowP _ _ _ _ _).size (w.heap.size + 1 + 1) w.heap.size (w.heap.size + 1 + 1 + 1) (w.heap.size + 1) L (kOf w a) q Fr to' th hq R.few hc3 hc1 hc4 hc2 (k_grs hL) (four_belowP _ _ _ _ _))
    rw [← pass_then] at h
    refine h.mono ?_
    rintro e w' ⟨va, vc, e1, hb, _, _, hp⟩
    exact ⟨va, vc, e1, hb, hp _ (BoxEq.refl _ _ _)⟩
  clear hL hB
  generalize resPass L Fr k o t to' th = M at *
  generalize passE L Fr k o t to' th = E at *
  generalize L.length = n at *
  go_enter Try.func11, Try.ntmps11
  go_wp2_with fail
  refine Calls.mono (D.out _ _ _ _ (by go_simp) (by go_simp) (by go_simp) (by go_simp)) ?_
  rintro e w1 ⟨va, vc, rfl, hb, hp⟩
  have HB : Hid (Below w.heap.size w w1) := hb
  have HP : Hid (PtsAt w1 va M) := hp
  clear hb hp D
  obtain ⟨ml, hml⟩ : ∃ z, M.length = z := ⟨_, rfl⟩
  have HML : Hid (M.length = ml) := hml
  rw [hml]
  clear hml
  go_wp2_with fail
  exact bodyPost_ret (v := .tuple #[.slice va ml vc, .int .i64 E]) (by simp [results, Try.results11, go_sem]) rfl (by first | exact ⟨va, vc, by rw [HML.out], HB.out, HP.out⟩ | exact ⟨va, ⟨vc, by rw [HML.out]⟩, HB.out, HP.out⟩)
end Go.Proofs.Ytgjfmepbphfjoaa
