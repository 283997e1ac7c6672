/-
  The contract of isSo: is a query so of a node?
-/
import Derived.Test.YtgjfmepbphfjoaaGreatUVbVcVdRz
import Derived.Test.YtgjfmepbphfjoaaGreatUXdUe
import Derived.Test.YtgjfmepbphfjoaaGreatUUbWbWdSr
import Derived.Test.YtgjfmepbphfjoaaGreatUVaLcLd
import Derived.Test.YtgjfmepbphfjoaaGreatURg
import Derived.Laws.AppendOwn
namespace Go.Proofs.YtgjfmepbphfjoaaGreat
open Go.RowKit

def tst (q : List Tst) (i : Nat) : Tst := q.getD i ⟨0, 0, false⟩

def TestsAt (w : World) (a : Option Addr) (q : List Tst) : Prop :=
  ∀ i, i < q.length → ∃ b o, a = some ⟨b, o, none⟩ ∧ w.cell? ⟨b, o + i * 3, none⟩ = some (.int .i64 (tst q i).t) ∧ w.cell? ⟨b, o + i * 3 + 1, none⟩ = some (.int .i64 (tst q i).m) ∧ w.cell? ⟨b, o + i * 3 + 2, none⟩ = some (.bool (tst q i).near)

theorem TestsAt.below {w w' : World} {a : Option Addr} {q : List Tst} (h : TestsAt w a q) (hb : Below w.heap.size w w') : TestsAt w' a q := fun i hi => by
  obtain ⟨b, o, e, h1, h2, h3⟩ := h i hi
  exact ⟨b, o, e, (hb.cell (World.block_lt_of_cell? w ⟨b, o + i * 3, none⟩ h1)).trans h1, (hb.cell (World.block_lt_of_cell? w ⟨b, o + i * 3 + 1, none⟩ h2)).trans h2, (hb.cell (World.block_lt_of_cell? w ⟨b, o + i * 3 + 2, none⟩ h3)).trans h3⟩

theorem take_rev {q : List Tst} {j : Nat} (h : j < q.length) : (q.take (j + 1)).reverse = tst q j :: (q.take j).reverse := by
  rw [List.take_add_one, List.getElem?_eq_getElem h, List.reverse_append]
  unfold tst
  rw [getD_elem q _ h]
  rfl

theorem soGo_step {S : List Nd} {te : Tst} {l : List Tst} {ps : List Int} : soGo S (te :: l) ps = if l.length = 0 then siftF S te ps else soGo S l (aboveF S te.near (siftF S te ps)) := by
  cases l with
  | nil => rfl
  | cons te' r => rfl

set_option maxHeartbeats 1000000 in
theorem sifted_any (S : List Nd) (a : Option Addr) (c : Nat) (te : Tst) (w : World) (hS : NdsAt w a S) (bt : Nat) (ps : List Int) (hps : PlacesU S ps) (v : Value) (W : World) (hb : Below w.heap.size w W) (hbt : bt < W.heap.size) (cs : W.cell? ⟨w.heap.size, 0, none⟩ = some (.slice a S.length c)) (t0 : W.cell? ⟨bt, 0, none⟩ = some (.int .i64 te.t)) (t1 : W.cell? ⟨bt, 1, none⟩ = some (.int .i64 te.m)) (t2 : W.cell? ⟨bt, 2, none⟩ = some (.bool te.near))
    (hown : W.ownsRow (w.heap.size + 1) 3 1 v ps.length (ps.map (Value.int .i64))) (hne : ∀ k, v.ownBlock = some k → k ≠ bt) :
    Calls Tryz.prog 125 #[v, .func (.func 139) #[] #[.pointer (some ⟨bt, 0, none⟩), .pointer (some ⟨w.heap.size, 0, none⟩)]] W fun e w' => ∃ v', e = .returned v' ∧ Below w.heap.size w w' ∧ w'.ownsRow (w.heap.size + 1) 3 1 v' (siftF S te ps).length ((siftF S te ps).map (Value.int .i64)) ∧ (∀ o, w'.cell? ⟨bt, o, none⟩ = W.cell? ⟨bt, o, none⟩) ∧ w'.cell? ⟨w.heap.size, 0, none⟩ = some (.slice a S.length c) ∧ W.heap.size ≤ w'.heap.size := by
  have eg := enters_of Tryz.func139 (by kernel_rfl) rfl
  rcases hown.2 with ⟨e, e0⟩ | ⟨g, cap, cur, e, hg, hcur, h3, h4, h5, h6⟩
  · subst e
    have hps0 : ps = [] := List.length_eq_zero_iff.1 e0
    subst hps0
    refine (deleteFunc_nil _ _ W eg).mono ?_
    rintro e w' ⟨rfl, hb'⟩
    exact ⟨_, rfl, hb.trans (hb'.mono hb.size), World.ownsRow_nil _ _ _ _, fun o => hb'.cell (by exact hbt), (hb'.cell (World.block_lt_of_cell? _ _ cs)).trans cs, hb'.size⟩
  · subst e
    have hgb : g ≠ bt := hne g rfl
    have hgw : g < W.heap.size := (Array.getElem?_eq_some_iff.1 hcur).1
    have hcap' : cap ≤ 9223372036854775807 := by unfold maxLen at h4; omega
    obtain ⟨_, _, _, _, G, hG, hGk⟩ := row_of_own hown
    have hst : ∀ w1, Off (fun b => b = g) W w1 → Below w.heap.size w w1 ∧ (∀ o, w1.cell? ⟨bt, o, none⟩ = W.cell? ⟨bt, o, none⟩) ∧ w1.cell? ⟨w.heap.size, 0, none⟩ = some (.slice a S.length c) := fun w1 h1 =>
      ⟨hb.trans (h1.below hb.size (fun k hk => by omega)), fun o => h1.cell (by exact hbt) (fun e => hgb (by simpa using e.symm)), (h1.cell (World.block_lt_of_cell? _ _ cs) (fun e => by simp at e; omega)).trans cs⟩
    refine (deleteFunc_in 139 _ (fun x => !testB te.t te.m (nd S x.toNat)) g ps.length cap ps G W rfl h3 hcap' hG hGk eg (fun x hx w1 h1 => ?_)).mono ?_
    · obtain ⟨k, rfl, hk⟩ := hps x hx
      obtain ⟨b1, b2, b3⟩ := hst w1 h1
      have := sift_any a c S te.t te.m te.near bt w.heap.size k w1 hk (hS.below b1) ((b2 0).trans t0) ((b2 1).trans t1) ((b2 2).trans t2) b3
      rw [Int.toNat_natCast]
      exact this
    · rintro e w' ⟨rfl, hoff, G', hG', hGk'⟩
      obtain ⟨b1, b2, b3⟩ := hst w' hoff
      refine ⟨_, rfl, b1, own_of_row hG' hGk' (Nat.le_trans (flt_le _ _) h3) h4 hg, b2, b3, hoff.size⟩

set_option maxHeartbeats 4000000 in
theorem isSo_any (a : Option Addr) (c : Nat) (S : List Nd) (place : Nat) (qa : Option Addr) (qc : Nat) (q : List Tst) (w : World) (wf : WF S) (hp : place < S.length) (hS : NdsAt w a S) (hq : q.length ≤ 6) (hQ : TestsAt w qa q) :
    Calls Tryz.prog 129 #[.agg #[.slice a S.length c], .int .i64 (place : Int), .slice qa q.length qc] w fun e w' => e = .returned (.bool (isSoF S place q)) ∧ Below w.heap.size w w' := by
  have hN := wf.small
  have SIFT : Hid (∀ (te : Tst) bt ps, PlacesU S ps → ∀ v W, Below w.heap.size w W → bt < W.heap.size → W.cell? ⟨w.heap.size, 0, none⟩ = some (.slice a S.length c) → W.cell? ⟨bt, 0, none⟩ = some (.int .i64 te.t) → W.cell? ⟨bt, 1, none⟩ = some (.int .i64 te.m) → W.cell? ⟨bt, 2, none⟩ = some (.bool te.near) → W.ownsRow (w.heap.size + 1) 3 1 v ps.length (ps.map (Value.int .i64)) → (∀ k, v.ownBlock = some k → k ≠ bt) → Calls _ _ _ _ _) := fun te bt ps hps v W hb hbt cs t0 t1 t2 hown hne => sifted_any S a c te w hS bt ps hps v W hb hbt cs t0 t1 t2 hown hne
  have ABV : Hid (∀ pa pc places near W, NdsAt W a S → places.length ≤ 1000000 → IntsAt W pa places → Calls _ _ _ _ _) := fun pa pc places near W hW hL hP => above_any a c S pa pc places near W hN hW hL hP
  have PL : Hid (∀ near ps, PlacesU S ps → PlacesU S (aboveF S near ps)) := fun near ps h => (mem_above wf near h).1
  have PN : Hid (∀ te ps, PlacesU S ps → PlacesU S (siftF S te ps)) := fun te ps h => h.sift
  have HS : Hid (NdsAt w a S) := hS
  have HQ : Hid (TestsAt w qa q) := hQ
  have TR : Hid (∀ j, j < q.length → ∀ ps, soGo S (q.take (j + 1)).reverse ps = if j = 0 then siftF S (tst q j) ps else soGo S (q.take j).reverse (aboveF S (tst q j).near (siftF S (tst q j) ps))) := fun j hj ps => by
    rw [take_rev hj, soGo_step]
    simp only [List.length_reverse, List.length_take]
    by_cases e : j = 0
    · subst e; rfl
    · rw [if_neg (by omega), if_neg e]
  have H0 : Hid (soGo S q.reverse [(place : Int)] = soGo S (q.take q.length).reverse [(place : Int)]) := by show _ = _; rw [List.take_length]
  have HP : Hid (PlacesU S [(place : Int)]) := fun x hx => ⟨place, by simpa using hx, hp⟩
  have HD : Hid (isSoF S place q = decide (0 < (soGo S q.reverse [(place : Int)]).length)) := rfl
  generalize isSoF S place q = R at *
  generalize soGo S q.reverse [(place : Int)] = F at *
  clear hS hQ wf
  generalize hn : S.length = n at *
  have HN : Hid _ := hn
  clear hn
  generalize hl : q.length = L at *
  have HL : Hid _ := hl
  clear hl
  go_enter Tryz.func129, Tryz.ntmps129
  go_wp2
  have c0 : ((w.alloc (.cells #[.slice a n c] 24)).alloc (.cells #[.int .i64 (place : Int)] 3)).cell? ⟨w.heap.size, 0, none⟩ = some (.slice a n c) := by go_simp
  have HO : Hid (((w.alloc (.cells #[.slice a n c] 24)).alloc (.cells #[.int .i64 (place : Int)] 3)).ownsRow (w.heap.size + 1) 3 1 (.slice (some ⟨w.heap.size + 1, 0, none⟩) 1 1) ([(place : Int)]).length (([(place : Int)]).map (Value.int .i64))) := ⟨by simp, Or.inr ⟨w.heap.size + 1, 1, #[.int .i64 (place : Int)], rfl, Nat.le_refl _, by
    have := heap_alloc_new (w.alloc (.cells #[.slice a n c] 24)) (.cells #[.int .i64 (place : Int)] 3)
    simpa using this, by simp, by unfold maxLen; omega, by simp, by simp⟩⟩
  go_loopg [7, 8] L (fun g1 s7 s8 wr => ∃ (j : Nat) (x : Int) (ps : List Int), j ≤ L ∧ j ≤ g1 ∧ x = (j : Int) - 1 ∧ s8 = .int .i64 x ∧ ps.length ≤ 24 ∧ Hid (Below w.heap.size w wr) ∧ wr.cell? ⟨w.heap.size, 0, none⟩ = some (.slice a n c) ∧ w.heap.size < wr.heap.size ∧ Hid (wr.ownsRow (w.heap.size + 1) 3 1 s7 ps.length (ps.map (Value.int .i64))) ∧ Hid (PlacesU S ps) ∧ Hid (F = soGo S (q.take j).reverse ps))
  case atStart => exact ⟨L, (L : Int) - 1, [(place : Int)], Nat.le_refl _, Nat.le_refl _, rfl, rfl, by simp, two_below _ _ _, c0, by simp; omega, HO, HP, H0⟩
  case round =>
    obtain ⟨j, x, ps, hj, hg1, hx, rfl, hpl, HB, cs, hs, HOW, HPS, HF⟩ := hrel
    clear c0 HO HP H0
    obtain ⟨pa, pc, hv, hints, hblk⟩ := own_slice HOW.out
    have HI : Hid _ := hints
    have HK : Hid _ := hblk
    clear hints hblk
    by_cases hj0 : j = 0
    · subst hj0
      have hx1 : x = -1 := by omega
      subst hx1
      clear hx
      have hR : R = decide (0 < ps.length) := by
        rw [HD.out, HF.out]
        rfl
      have HR : Hid _ := hR
      rw [hv]
      clear hR hv
      generalize ps.length = PL0 at *
      go_wp2
      go_ret
      exact ⟨by rw [HR.out]; rfl, HB.out⟩
    · obtain ⟨i, rfl⟩ : ∃ i, j = i + 1 := ⟨j - 1, by omega⟩
      obtain rfl : x = (i : Int) := by omega
      clear hx
      have hi2 : (i : Int) < (L : Int) := by omega
      obtain ⟨qb, qo, rfl, q0, q1, q2⟩ := (HQ.out.below HB.out) i (by rw [HL.out]; omega)
      have hql := World.block_lt_of_cell? _ _ q0
      have TRI := TR.out i (by omega) ps
      have HTR : Hid _ := TRI
      clear TRI
      have SI : Hid (∀ W, Below w.heap.size w W → wr.heap.size < W.heap.size → W.cell? ⟨w.heap.size, 0, none⟩ = some (.slice a n c) → W.cell? ⟨wr.heap.size, 0, none⟩ = some (.int .i64 (tst q i).t) → W.cell? ⟨wr.heap.size, 1, none⟩ = some (.int .i64 (tst q i).m) → W.cell? ⟨wr.heap.size, 2, none⟩ = some (.bool (tst q i).near) → W.ownsRow (w.heap.size + 1) 3 1 (.slice pa ps.length pc) ps.length (ps.map (Value.int .i64)) → Calls _ _ _ _ _) := fun W h1 h2 h3 h4 h5 h6 h7 => SIFT.out (tst q i) wr.heap.size ps HPS.out (.slice pa ps.length pc) W h1 h2 h3 h4 h5 h6 h7 (fun k hk => by have := HK.out k (by rw [hv]; exact hk); omega)
      have OW : Hid (wr.ownsRow (w.heap.size + 1) 3 1 (.slice pa ps.length pc) ps.length (ps.map (Value.int .i64))) := by rw [← hv]; exact HOW.out
      have PS2 : Hid (PlacesU S (siftF S (tst q i) ps)) := PN.out _ _ HPS.out
      rw [hv]
      clear hv HOW HPS HI HK SIFT
      have hpl' : (siftF S (tst q i) ps).length ≤ 24 := Nat.le_trans (flt_le _ _) hpl
      generalize hps' : siftF S (tst q i) ps = ps' at *
      generalize hte : tst q i = te at *
      have HTE : Hid _ := hte
      clear hps' hte
      generalize hPL : ps.length = PL0 at *
      have HPL : Hid _ := hPL
      clear hPL
      obtain ⟨tt, tm, tn⟩ := te
      dsimp only at *
      go_wp2_with fail
      refine Calls.mono (SI.out _ (HB.out.alloc HB.out.size _) (by simp) (by go_simp) (by go_simp) (by go_simp) (by go_simp) (OW.out.alloc _)) ?_
      rintro e w2 ⟨v', rfl, hb2, how2, ht2, hc2, hz2⟩
      obtain ⟨pa', pc', hv', hints', _⟩ := own_slice how2
      have t2 : w2.cell? ⟨wr.heap.size, 2, none⟩ = some (.bool tn) := (ht2 2).trans (by go_simp)
      have HB2 : Hid _ := hb2
      have OW2 : Hid (w2.ownsRow (w.heap.size + 1) 3 1 (.slice pa' ps'.length pc') ps'.length (ps'.map (Value.int .i64))) := by rw [← hv']; exact how2
      have HI2 : Hid _ := hints'
      simp only [World.size_alloc] at hz2
      have hs2 : w.heap.size < w2.heap.size := by omega
      have hz3 : wr.heap.size < w2.heap.size := by omega
      clear hb2 how2 hints' ht2
      rw [hv']
      clear hv'
      by_cases hi0 : i = 0
      · subst hi0
        have HF2 : Hid (F = soGo S (q.take 0).reverse ps') := by
          show _ = _
          rw [HF.out, HTR.out, if_pos rfl]; rfl
        go_wp2
        go_roundg 0
        case measure => omega
        case rel => exact ⟨0, -1, ps', by omega, by omega, rfl, by go_num, hpl', HB2, hc2, hs2, OW2, PS2, HF2⟩
      · have hi3 : (0 : Int) < (i : Int) := by omega
        have HF2 : Hid (F = soGo S (q.take i).reverse (aboveF S tn ps')) := by
          show _ = _
          rw [HF.out, HTR.out, if_neg hi0]
        have PS3 : Hid (PlacesU S (aboveF S tn ps')) := PL.out _ _ PS2.out
        have AB : Hid _ := ABV.out pa' pc' ps' tn w2 (HS.out.below HB2.out) (by omega) HI2.out
        generalize hpl2 : ps'.length = PL2 at *
        clear hpl2
        go_wp2_with fail
        refine Calls.mono AB.out ?_
        rintro e w3 ⟨v3, rfl, hb3, how3, hlen3⟩
        have hs3 := hb3.size
        have hc3 := (hb3.cell (World.block_lt_of_cell? _ _ hc2)).trans hc2
        have HB3 : Hid (Below w.heap.size w w3) := HB2.out.trans (hb3.mono HB2.out.size)
        have OW3 : Hid (w3.ownsRow (w.heap.size + 1) 3 1 v3 (aboveF S tn ps').length ((aboveF S tn ps').map (Value.int .i64))) := ownsRow_base how3 (by omega)
        clear how3 hb3
        go_wp2
        go_roundg i
        case measure => omega
        case rel => exact ⟨i, (i : Int) - 1, aboveF S tn ps', by omega, by omega, rfl, by go_num, by omega, HB3, hc3, by omega, OW3, PS3, HF2⟩
end Go.Proofs.YtgjfmepbphfjoaaGreat

namespace Go.Proofs.YtgjfmepbphfjoaaGreat
open Go.RowKit

def tOkB (te : Tst) : Bool := (decide (te.t = -1000001) || decide (0 ≤ te.t ∧ te.t ≤ 99)) && (decide (te.m = -1000001) || decide (-1000000 ≤ te.m ∧ te.m ≤ 1000000))

set_option maxHeartbeats 1000000 in
theorem tInRange_any (te : Tst) (w : World) :
    Calls Tryz.prog 138 #[.agg #[.int .i64 te.t, .int .i64 te.m, .bool te.near]] w fun e w' => e = .returned (.bool (tOkB te)) ∧ Below w.heap.size w w' := by
  obtain ⟨T, M, near⟩ := te
  unfold tOkB
  dsimp only
  have d1 := within_any T 0 99
  have d2 := within_any M (-1000000) 1000000
  generalize decide (0 ≤ T ∧ T ≤ 99) = b1 at *
  generalize decide (-1000000 ≤ M ∧ M ≤ 1000000) = b2 at *
  by_cases h1 : T = -1000001
  · subst h1
    simp only [decide_true, Bool.true_or, Bool.true_and]
    by_cases h2 : M = -1000001
    · subst h2
      simp only [decide_true, Bool.true_or]
      go_enter Tryz.func138, Tryz.ntmps138
      go_wp2
      go_ret
      exact ⟨rfl, (Below.refl _ _).alloc (Nat.le_refl _) _⟩
    · have e2 : (M == -1000001) = false := beq_eq_false_iff_ne.2 h2
      simp only [decide_eq_false h2, Bool.false_or]
      cases b2 <;>
      · go_enter Tryz.func138, Tryz.ntmps138
        go_wp2_with (go_at_call 54; refine (d2 _).mono ?_; rintro e w' ⟨rfl, rfl⟩)
        go_ret
        exact ⟨rfl, (Below.refl _ _).alloc (Nat.le_refl _) _⟩
  · have e1 : (T == -1000001) = false := beq_eq_false_iff_ne.2 h1
    simp only [decide_eq_false h1, Bool.false_or]
    cases b1 with
    | false =>
      simp only [Bool.false_and]
      go_enter Tryz.func138, Tryz.ntmps138
      go_wp2_with (go_at_call 54; refine (d1 _).mono ?_; rintro e w' ⟨rfl, rfl⟩)
      go_ret
      exact ⟨rfl, (Below.refl _ _).alloc (Nat.le_refl _) _⟩
    | true =>
      simp only [Bool.true_and]
      by_cases h2 : M = -1000001
      · subst h2
        simp only [decide_true, Bool.true_or]
        go_enter Tryz.func138, Tryz.ntmps138
        go_wp2_with (go_at_call 54; refine (d1 _).mono ?_; rintro e w' ⟨rfl, rfl⟩)
        go_ret
        exact ⟨rfl, (Below.refl _ _).alloc (Nat.le_refl _) _⟩
      · have e2 : (M == -1000001) = false := beq_eq_false_iff_ne.2 h2
        simp only [decide_eq_false h2, Bool.false_or]
        cases b2 <;>
        · go_enter Tryz.func138, Tryz.ntmps138
          go_wp2_with (first | (go_at_call_of 54 (Value.int .i64 99); refine (d1 _).mono ?_; rintro e w' ⟨rfl, rfl⟩) | (go_at_call_of 54 (Value.int .i64 1000000); refine (d2 _).mono ?_; rintro e w' ⟨rfl, rfl⟩))
          go_ret
          exact ⟨rfl, (Below.refl _ _).alloc (Nat.le_refl _) _⟩

/-- What is wrong with the tests from place k on. -/
def testsE : Nat → List Tst → Int
  | _, [] => 0
  | k, te :: r => if tOkB te then (if decide (k = 0) && te.near then 3 else testsE (k + 1) r) else 2
def qcheckE (q : List Tst) : Int := if decide (1 ≤ (q.length : Int) ∧ (q.length : Int) ≤ 6) then testsE 0 q else 1

theorem drop_tst {q : List Tst} {k : Nat} (h : k < q.length) : q.drop k = tst q k :: q.drop (k + 1) := drop_cons h

set_option maxHeartbeats 2000000 in
theorem qcheck_any (qa : Option Addr) (qc : Nat) (q : List Tst) (w : World) (hq : q.length ≤ 9223372036854775807) (hQ : TestsAt w qa q) :
    Calls Tryz.prog 128 #[.slice qa q.length qc] w fun e w' => e = .returned (.int .i64 (qcheckE q)) ∧ Below w.heap.size w w' := by
  have HQ : Hid (TestsAt w qa q) := hQ
  have d1 := within_any (q.length : Int) 1 6
  have DR : Hid (∀ k, k < q.length → testsE k (q.drop k) = if tOkB (tst q k) then (if decide (k = 0) && (tst q k).near then 3 else testsE (k + 1) (q.drop (k + 1))) else 2) := fun k hk => by rw [drop_tst hk]; rfl
  have DE : Hid (testsE q.length (q.drop q.length) = 0) := by show _ = _; rw [List.drop_length]; rfl
  unfold qcheckE
  clear hQ
  have H0 : Hid (testsE 0 q = testsE 0 (q.drop 0)) := rfl
  generalize testsE 0 q = E at *
  generalize hl : q.length = L at *
  have HL : Hid _ := hl
  clear hl
  cases hb : decide (1 ≤ (L : Int) ∧ (L : Int) ≤ 6) with
  | false =>
    rw [hb] at d1
    simp only [Bool.false_eq_true, if_false]
    clear hb
    go_enter Tryz.func128, Tryz.ntmps128
    go_wp2_with (go_at_call 54; refine (d1 _).mono ?_; rintro e w' ⟨rfl, hw'⟩; have hw2 := hw'.symm; clear hw'; subst hw2)
    go_ret
    exact ⟨rfl, Below.refl _ _⟩
  | true =>
    rw [hb] at d1
    simp only [if_true]
    clear hb
    go_enter Tryz.func128, Tryz.ntmps128
    go_wp2_with (go_at_call 54; refine (d1 _).mono ?_; rintro e w' ⟨rfl, hw'⟩; have hw2 := hw'.symm; clear hw'; subst hw2)
    go_loopg [11] L (fun g1 s11 wr => ∃ k : Nat, k ≤ L ∧ L - k ≤ g1 ∧ s11 = .int .i64 k ∧ Below w.heap.size w wr ∧ Hid (E = testsE k (q.drop k)))
    case atStart => exact ⟨0, by omega, by omega, rfl, Below.refl _ _, H0⟩
    case round =>
      obtain ⟨k, hk, hg1, rfl, hb, HE⟩ := hrel
      by_cases hlt : k < L
      · have hlt2 : (k : Int) < (L : Int) := by omega
        obtain ⟨qb, qo, rfl, q0, q1, q2⟩ := (HQ.out.below hb) k (by rw [HL.out]; exact hlt)
        have hql := World.block_lt_of_cell? _ _ q0
        have DK := DR.out k (by omega)
        have d2 := fun W => tInRange_any (tst q k) W
        generalize tst q k = te at *
        generalize tOkB te = ok at *
        obtain ⟨tt, tm, tn⟩ := te
        dsimp only at *
        have HDK : Hid _ := DK
        clear DK
        cases ok with
        | false =>
          have E2 : Hid (E = 2) := by show _ = _; rw [HE.out, HDK.out]; rfl
          go_wp2_with (go_at_call 138; refine (d2 _).mono ?_; rintro e w2 ⟨rfl, hb2⟩)
          go_ret
          exact ⟨by rw [E2.out]; rfl, hb.trans (((Below.refl _ _).alloc (Nat.le_refl _) _ |>.trans (hb2.mono (by simp))).mono hb.size)⟩
        | true =>
          by_cases hk0 : k = 0
          · subst hk0
            simp only [Nat.zero_mul, Nat.add_zero] at q0 q1 q2
            cases tn with
            | true =>
              have E2 : Hid (E = 3) := by show _ = _; rw [HE.out, HDK.out]; rfl
              go_wp2_with (go_at_call 138; refine (d2 _).mono ?_; rintro e w2 ⟨rfl, hb2⟩; simp only [World.size_alloc] at hb2; have c2 : w2.cell? ⟨wr.heap.size, 2, none⟩ = some (.bool true) := (hb2.cell (by simp)).trans (by go_simp))
              go_ret
              exact ⟨by rw [E2.out]; rfl, hb.trans (((Below.refl _ _).alloc (Nat.le_refl _) _ |>.trans (hb2.mono (by omega))).mono hb.size)⟩
            | false =>
              have E2 : Hid (E = testsE (0 + 1) (q.drop (0 + 1))) := by show _ = _; rw [HE.out, HDK.out]; rfl
              go_wp2_with (go_at_call 138; refine (d2 _).mono ?_; rintro e w2 ⟨rfl, hb2⟩; simp only [World.size_alloc] at hb2; have c2 : w2.cell? ⟨wr.heap.size, 2, none⟩ = some (.bool false) := (hb2.cell (by simp)).trans (by go_simp))
              go_roundg (L - 1)
              case measure => omega
              case rel => exact ⟨0 + 1, by omega, by omega, by go_num, hb.trans (((Below.refl _ _).alloc (Nat.le_refl _) _ |>.trans (hb2.mono (by omega))).mono hb.size), E2⟩
          · have hkb : ((k : Int) == 0) = false := beq_eq_false_iff_ne.2 (by omega)
            have E2 : Hid (E = testsE (k + 1) (q.drop (k + 1))) := by
              show _ = _
              rw [HE.out, HDK.out, decide_eq_false hk0]; rfl
            go_wp2_with (go_at_call 138; refine (d2 _).mono ?_; rintro e w2 ⟨rfl, hb2⟩)
            go_roundg (L - (k + 1))
            case measure => omega
            case rel => exact ⟨k + 1, by omega, by omega, by go_num, hb.trans (((Below.refl _ _).alloc (Nat.le_refl _) _ |>.trans (hb2.mono (by simp))).mono hb.size), E2⟩
      · have : k = L := by omega
        subst this
        have E2 : Hid (E = 0) := by show _ = _; rw [HE.out, ← HL.out]; rw [← HL.out] at DE; exact DE.out
        go_wp2
        go_ret
        exact ⟨by rw [E2.out]; rfl, hb⟩
end Go.Proofs.YtgjfmepbphfjoaaGreat

namespace Go.Proofs.YtgjfmepbphfjoaaGreat
open Go.RowKit

theorem info143 : (Tryz.prog.info? 143).map (fun i => (i.zero, i.size, i.bytes)) = some (some (.agg #[.int .i64 0, .int .i64 0, .slice none 0 0]), 3, 40) := by kernel_rfl

def scell (s : Slt) (v : Value) : List Value := [.int .i64 s.pl, .int .i64 s.num, v]
def scells (L : List Slt) (K : Nat → Value) : List Value := (List.range L.length).flatMap fun i => scell (slt L i) (K i)

theorem slt_left {L : List Slt} {s : Slt} {i : Nat} (h : i < L.length) : slt (L ++ [s]) i = slt L i := by
  rw [slt_elem (by simp; omega), slt_elem h, List.getElem_append_left h]
theorem slt_last (L : List Slt) (s : Slt) : slt (L ++ [s]) L.length = s := by
  rw [slt_elem (by simp)]
  simp

theorem scells_snoc (L : List Slt) (K : Nat → Value) (s : Slt) (v : Value) : scells L K ++ scell s v = scells (L ++ [s]) (fun i => if i = L.length then v else K i) := by
  unfold scells
  rw [List.length_append, List.length_singleton, List.range_succ, List.flatMap_append]
  congr 1
  · refine flatMap_congr' (fun x hx => ?_)
    have hlt := List.mem_range.1 hx
    have : x ≠ L.length := by omega
    simp only [if_neg this]
    rw [slt_left hlt]
  · simp [slt_last]

/-- A row of slots of the call's own, and the rows of what is given. -/
def OwnS (B : Nat) (L : List Slt) (K : Nat → Value) (v : Value) (w : World) : Prop :=
  w.ownsRow B 143 3 v L.length (scells L K) ∧ ∀ i, i < L.length → w.ownsRow B 3 1 (K i) (slt L i).gv.length ((slt L i).gv.map (Value.int .i64))

theorem OwnS.other {B : Nat} {L : List Slt} {K : Nat → Value} {v : Value} {w w' : World} (h : OwnS B L K v w) (hb : ∀ b, B ≤ b → b < w.heap.size → w'.heap[b]? = w.heap[b]?) : OwnS B L K v w' :=
  ⟨owns_block h.1 (fun k hk => hb k (h.1.lt k hk).1 (h.1.lt k hk).2), fun i hi => owns_block (h.2 i hi) (fun k hk => hb k ((h.2 i hi).lt k hk).1 ((h.2 i hi).lt k hk).2)⟩

theorem OwnS.below {B : Nat} {L : List Slt} {K : Nat → Value} {v : Value} {w w' : World} (h : OwnS B L K v w) (hb : Below w.heap.size w w') : OwnS B L K v w' := h.other (fun b _ hlt => hb.block b hlt)

theorem OwnS.base {B B' : Nat} {L : List Slt} {K : Nat → Value} {v : Value} {w : World} (h : OwnS B L K v w) (hB : B' ≤ B) : OwnS B' L K v w := ⟨ownsRow_baseL h.1 hB, fun i hi => ownsRow_baseL (h.2 i hi) hB⟩

theorem scells_len (L : List Slt) (K : Nat → Value) : ∀ q, ((List.range q).flatMap fun i => scell (slt L i) (K i)).length = q * 3
  | 0 => rfl
  | q + 1 => by rw [List.range_succ, List.flatMap_append, List.length_append, scells_len L K q]; simp [scell]; omega

theorem scells_at (L : List Slt) (K : Nat → Value) {i j : Nat} (hj : j < 3) : ∀ {q : Nat}, i < q → ((List.range q).flatMap fun i => scell (slt L i) (K i))[i * 3 + j]? = (scell (slt L i) (K i))[j]?
  | 0, hi => by omega
  | q + 1, hi => by
    rw [List.range_succ, List.flatMap_append]
    by_cases e : i < q
    · rw [List.getElem?_append_left (by rw [scells_len]; omega)]
      exact scells_at L K hj e
    · have : i = q := by omega
      subst this
      rw [List.getElem?_append_right (by rw [scells_len]; omega), scells_len, show i * 3 + j - i * 3 = j by omega]
      simp

theorem OwnS.slts {B : Nat} {L : List Slt} {K : Nat → Value} {v : Value} {w : World} (h : OwnS B L K v w) : ∃ a c, v = .slice a L.length c ∧ SltsAt w a L := by
  obtain ⟨hm, hk⟩ := h
  have hm' := hm
  obtain ⟨hl, h⟩ := hm
  rcases h with ⟨rfl, h0⟩ | ⟨g, cap, cur, rfl, hb, hg, h1, h2, h3, h4⟩
  · exact ⟨none, 0, by rw [h0], fun i hi => by omega⟩
  · refine ⟨some ⟨g, 0, none⟩, cap, rfl, fun i hi => ⟨g, 0, rfl, ?_⟩⟩
    have hc : ∀ j, j < 3 → w.cell? ⟨g, i * 3 + j, none⟩ = (scell (slt L i) (K i))[j]? := fun j hj => by
      rw [← scells_at L K hj hi]
      exact hm'.cellAt (i * 3 + j) (by omega)
    obtain ⟨sa, sc, e1, e2⟩ := ints_own (hk i hi)
    rw [Nat.zero_add]
    refine ⟨hc 0 (by omega), hc 1 (by omega), sa, sc, ?_, e2⟩
    rw [hc 2 (by omega), e1]
    rfl

theorem OwnS.step {wr wp w3 : World} {B : Nat} {L : List Slt} {K : Nat → Value} {v v1 v2 : Value} {s : Slt} {o3 : Obj} (I : OwnS B L K v wr) (hB : B ≤ wr.heap.size) (hs : wr.heap.size ≤ wp.heap.size)
    (e : ∀ k, k < wr.heap.size → wp.heap[k]? = wr.heap[k]?) (own1 : wp.ownsRow wr.heap.size 3 1 v1 s.gv.length (s.gv.map (Value.int .i64)))
    (h3 : (wp.alloc o3).grownBy w3 v.ownBlock) (own3 : w3.ownsRow B 143 3 v2 (L.length + 1) (scells L K ++ scell s v1)) :
    OwnS B (L ++ [s]) (fun i => if i = L.length then v1 else K i) v2 w3 := by
  obtain ⟨hm, hk⟩ := I
  have e3 : ∀ k, k < wp.heap.size → v.ownBlock ≠ some k → w3.heap[k]? = wp.heap[k]? := fun k hk hk2 =>
    (h3.block k (by simp; omega) (fun e => hk2 e.symm)).trans (Below.heap_alloc _ _ _ hk)
  refine ⟨?_, fun i hi => ?_⟩
  · rw [← scells_snoc, List.length_append, List.length_singleton]
    exact own3
  · rw [List.length_append, List.length_singleton] at hi
    by_cases ei : i = L.length
    · subst ei
      simp only [if_true]
      rw [slt_last]
      refine owns_block (ownsRow_baseL own1 hB) (fun k hk => ?_)
      have hl := own1.lt k hk
      exact e3 k hl.2 (fun ek => by have := (hm.lt k ek).2; omega)
    · simp only [if_neg ei]
      have hi' : i < L.length := by omega
      rw [slt_left hi']
      have hkr := hk i hi'
      refine owns_block hkr (fun k hk => ?_)
      have hl := hkr.lt k hk
      exact (e3 k (by omega) (owns_apart hkr hm (by decide) k hk)).trans (e k hl.2)

theorem news3Le {W : World} {b : Nat} {s : Slt} {v : Value} (c0 : W.cell? ⟨b, 0, none⟩ = some (.int .i64 s.pl)) (c1 : W.cell? ⟨b, 1, none⟩ = some (.int .i64 s.num)) (c2 : W.cell? ⟨b, 2, none⟩ = some v) : ∀ j u, (scell s v)[j]? = some u → W.cell? ((⟨b, 0, none⟩ : Addr).add j) = some u := fun j u hj => by
  unfold scell at hj
  rw [Addr.add_lit]
  match j, hj with
  | 0, hj => cases hj; exact c0
  | 1, hj => cases hj; exact c1
  | 2, hj => cases hj; exact c2

theorem one3Le {s : Slt} {a : Option Addr} {n c : Nat} : ∀ u ∈ scell s (.slice a n c), u.oneCell' = true := fun u hu => by
  unfold scell at hu
  simp at hu
  rcases hu with rfl | rfl | rfl <;> rfl

set_option maxRecDepth 100000 in
set_option maxHeartbeats 1000000 in
theorem slotsOf_no (a : Option Addr) (c : Nat) (S : List Nd) (H : Int) (w : World) (hN : S.length ≤ 9223372036854775807) (hS : NdsAt w a S) (hr : rootE S H = -1) :
    Calls Tryz.prog 142 #[.agg #[.slice a S.length c], .int .i64 H] w fun e w' => e = .returned (.slice none 0 0) ∧ Below w.heap.size w w' := by
  have d := fun (W : World) (hW : NdsAt W a S) => rootOf_any a c S H W hN hW
  rw [hr] at d
  have D : Hid _ := d
  have HS : Hid (NdsAt w a S) := hS
  clear d hS hr
  generalize S.length = n at *
  go_enter Tryz.func142, Tryz.ntmps142
  go_wp2_with fail
  refine Calls.mono (D.out _ (HS.out.below ((Below.refl _ _).alloc (Nat.le_refl _) _))) ?_
  rintro e w1 ⟨rfl, hb⟩
  have HB1 : Hid (Below w.heap.size w w1) := ((Below.refl _ _).alloc (Nat.le_refl _) _).trans (hb.mono (by simp))
  clear hb
  go_wp2_with fail
  go_ret
  exact ⟨rfl, HB1.out⟩
end Go.Proofs.YtgjfmepbphfjoaaGreat
