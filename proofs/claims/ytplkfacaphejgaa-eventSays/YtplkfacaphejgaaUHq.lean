/-
  slices.Clone and slices.DeleteFunc over hearers; Dispatch's second closure.
-/
import Derived.Test.YtplkfacaphejgaaUHmHhTo
import Derived.Test.YtplkfacaphejgaaUHo
import Derived.Test.YtplkfacaphejgaaUUaSo
import Derived.Laws.IdiomCopy
namespace Go.Proofs.Ytplkfacaphejgaa
open Go.RowKit
set_option linter.unusedVariables false

set_option maxRecDepth 100000 in
set_option maxHeartbeats 1000000 in
theorem cloneHr_any (a : Option Addr) (c : Nat) (L : List Hr) (w : World) (hN : L.length ≤ 100000) (hL : HrsAt w a L) (ha : a = none → L.length = 0) :
    Calls Try.prog 17 #[.slice a L.length c] w fun e w' => ∃ v2, e = .returned v2 ∧ Below w.heap.size w w' ∧ w'.ownsRow w.heap.size 39 5 v2 L.length (hcells L) := by
  obtain ⟨i0, hi0, hz0, hz1, hz2⟩ := info_parts infoHearer
  cases a with
  | none =>
    have h0 := ha rfl
    have e : L = [] := List.eq_nil_of_length_eq_zero h0
    subst e
    have hnil := fun (W : World) n c n' c' => Lib.run_eql_slice_nil (P := Try.prog) W 25 39 none n c n' c' Try.underlying25
    have FIN : Hid (w.ownsRow w.heap.size 39 5 (.slice none 0 0) 0 []) := World.ownsRow_nil _ _ _ _
    clear hL ha h0
    go_enter Try.func17, Try.ntmps17
    go_wp2_with fail
    go_ret
    exact ⟨_, rfl, Below.refl _ _, FIN.out⟩
  | some ad =>
    obtain ⟨ab, ao, asp⟩ := ad
    have hsp : 0 < L.length → asp = none := fun h => by
      obtain ⟨b, o, e, _⟩ := hL 0 h
      cases e
      rfl
    have hnil := fun (W : World) n c n' c' => Lib.run_eql_slice_nil (P := Try.prog) W 25 39 (some ⟨ab, ao, asp⟩) n c n' c' Try.underlying25
    have NEW : Hid (∀ o1, ∀ j u, (hcells L)[j]? = some u → (w.alloc o1).cell? ((⟨ab, ao, asp⟩ : Addr).add j) = some u) := fun o1 j u hj => by
      have hlt : j < L.length * 5 := by
        rcases Nat.lt_or_ge j (L.length * 5) with h | h
        · exact h
        · rw [List.getElem?_eq_none (by rw [hcells_len]; exact h)] at hj; cases hj
      have e := hsp (by omega)
      subst e
      obtain ⟨b, o, e, c0, c1, c2, c3, c4⟩ := hL (j / 5) (by omega)
      cases e
      have hj2 : (hcell (hr L (j / 5)))[j % 5]? = some u := by
        rw [← hcells_at L (i := j / 5) (j := j % 5) (by omega) (by omega), show j / 5 * 5 + j % 5 = j by omega]
        exact hj
      rw [Addr.add_lit]
      refine keepC ?_ (one_belowS w o1)
      have e5 : j % 5 = 0 ∨ j % 5 = 1 ∨ j % 5 = 2 ∨ j % 5 = 3 ∨ j % 5 = 4 := by omega
      unfold hcell at hj2
      rcases e5 with e | e | e | e | e
      · rw [e] at hj2; simp at hj2; subst hj2; rw [show ao + j = ao + j / 5 * 5 by omega]; exact c0
      · rw [e] at hj2; simp at hj2; subst hj2; rw [show ao + j = ao + j / 5 * 5 + 1 by omega]; exact c1
      · rw [e] at hj2; simp at hj2; subst hj2; rw [show ao + j = ao + j / 5 * 5 + 2 by omega]; exact c2
      · rw [e] at hj2; simp at hj2; subst hj2; rw [show ao + j = ao + j / 5 * 5 + 3 by omega]; exact c3
      · rw [e] at hj2; simp at hj2; subst hj2; rw [show ao + j = ao + j / 5 * 5 + 4 by omega]; exact c4
    have ONE : Hid _ := hcells_one L
    have LEN : Hid ((hcells L).length = L.length * 5) := hcells_len L
    clear hL ha hsp
    generalize hcells L = cs at *
    obtain ⟨n, hn⟩ : ∃ z, L.length = z := ⟨_, rfl⟩
    rw [hn] at hN LEN ⊢
    clear hn
    go_enter Try.func17, Try.ntmps17
    go_wp2_with (at_builtin; refine wpList_append_own _ rfl _ _ 25 rfl w.heap.size 39 i0 (.agg #[.int .i64 0, .bool false, .bool false, .bool false, .int .i64 0]) 5 24 Try.underlying25 hi0 hz0 hz1 hz2 rfl (by decide) (.slice (some ⟨w.heap.size, 0, none⟩) 0 0) 0 [] rfl ?c0 ⟨ab, ao, asp⟩ n c cs rfl LEN.out (NEW.out _) ONE.out ?c3 ?c4 ?c5 ?_)
    case c0 => exact ⟨by simp, Or.inr ⟨w.heap.size, 0, #[], rfl, Nat.le_refl _, heap_alloc_new w _, by omega, by unfold maxLen; omega, by simp, by simp⟩⟩
    case c3 => unfold maxLen; omega
    case c4 => omega
    case c5 => simp
    intro v2 w2 own2 grow2 _
    have FIN : Hid (w2.ownsRow w.heap.size 39 5 v2 n cs) := own2
    have HB : Hid (Below w.heap.size w w2) := (one_belowS w _).grown grow2 (by simp) (fun k hk => by cases hk; exact Nat.le_refl _)
    obtain ⟨va, vc, rfl⟩ : ∃ va vc, v2 = .slice va n vc := by
      rcases own2.2 with ⟨e, e0⟩ | ⟨g, cap, cur, e, _⟩
      · exact ⟨none, 0, by rw [e, e0]⟩
      · exact ⟨_, cap, e⟩
    clear own2 grow2
    go_wp2_with fail
    go_ret
    exact ⟨_, rfl, HB.out, FIN.out⟩

def TellsOffHr (Ok : Hr → Prop) (X : Nat → Prop) (K : Nat) (caps : Array Value) (p : Hr → Bool) (w : World) : Prop :=
  ∀ (x : Hr) (w1 : World), Ok x → Off X w w1 → Calls Try.prog K (#[.agg #[.int .i64 x.pl, .bool x.dn, .bool x.on, .bool x.st, .int .i64 x.id]] ++ caps) w1 fun e w2 => e = .returned (.bool (p x)) ∧ Below w1.heap.size w1 w2
def fltH (p : Hr → Bool) (L : List Hr) : List Hr := L.filter fun x => !p x
theorem fltH_succ (p : Hr → Bool) (L : List Hr) (j : Nat) (h : j < L.length) : fltH p (L.take (j + 1)) = fltH p (L.take j) ++ (if p (hr L j) then [] else [hr L j]) := by
  unfold fltH
  rw [List.take_succ_eq_append_getElem h, List.filter_append, hr_elem h]
  cases hp : p L[j] <;> simp [hp]
theorem fltH_all (p : Hr → Bool) (L : List Hr) (h : ∀ i, i < L.length → p (hr L i) = false) : fltH p L = L := by
  unfold fltH
  rw [List.filter_eq_self]
  intro x hx
  obtain ⟨i, hi, rfl⟩ := List.getElem_of_mem hx
  have := h i hi
  rw [hr_elem hi] at this
  simp [this]
def cellH (x : Hr) : Nat → Value
  | 0 => .int .i64 x.pl
  | 1 => .bool x.dn
  | 2 => .bool x.on
  | 3 => .bool x.st
  | _ => .int .i64 x.id
theorem cellH_at (x : Hr) {j : Nat} (h : j < 5) : (hcell x)[j]? = some (cellH x j) := by
  match j, h with
  | 0, _ => rfl
  | 1, _ => rfl
  | 2, _ => rfl
  | 3, _ => rfl
  | 4, _ => rfl
theorem hrs_row {w : World} {kb N n : Nat} {F : Nat → Value} {L : List Hr} (h : w.rowIs kb 39 N F) (hn : L.length * 5 ≤ N) (hF : ∀ t, t < L.length → ∀ q, q < 5 → F (t * 5 + q) = cellH (hr L t) q) : HrsAt w (some ⟨kb, 0, none⟩) L := fun i hi => by
  have hc : ∀ j, j < 5 → w.cell? ⟨kb, 0 + i * 5 + j, none⟩ = some (cellH (hr L i) j) := fun j hj => by
    rw [Nat.zero_add, h.cell (by omega), hF i hi j hj]
  exact ⟨kb, 0, rfl, hc 0 (by omega), hc 1 (by omega), hc 2 (by omega), hc 3 (by omega), hc 4 (by omega)⟩
theorem row_hr {w : World} {B kb n cap : Nat} {L : List Hr} (h : w.ownsRow B 39 5 (.slice (some ⟨kb, 0, none⟩) n cap) n (hcells L)) (hn : L.length = n) : ∃ F, w.rowIs kb 39 (cap * 5) F ∧ n ≤ cap ∧ cap ≤ maxLen ∧ B ≤ kb ∧ ∀ t, t < n → ∀ q, q < 5 → F (t * 5 + q) = cellH (hr L t) q := by
  rcases h.2 with ⟨e, _⟩ | ⟨g, cap', cur, e, hb, hg, h1, h2, h3, h4⟩
  · cases e
  · cases e
    refine ⟨fun i => cur.getD i (.bool false), ⟨cur, hg, h3, fun i hi => ?_⟩, h1, h2, hb, fun t ht q hq => ?_⟩
    · simp [Array.getD, h3, hi]
    · have h5 : (cur.toList.take (n * 5))[t * 5 + q]? = some (cellH (hr L t) q) := by
        rw [h4, hcells_at L (by omega) hq, cellH_at _ hq]
      rw [List.getElem?_take, if_pos (by omega)] at h5
      have h6 : cur[t * 5 + q]? = some (cellH (hr L t) q) := by simpa using h5
      simp [Array.getD_eq_getD_getElem?, h6]

theorem zeros_one (n : Nat) : ∀ v ∈ (Builtin.zeroCells #[Value.int .i64 0, .bool false, .bool false, .bool false, .int .i64 0] n).toList, v.oneCell' = true := fun v hv => by
  simp [Builtin.zeroCells] at hv
  obtain ⟨i, _, rfl⟩ := hv
  have e5 : i % 5 = 0 ∨ i % 5 = 1 ∨ i % 5 = 2 ∨ i % 5 = 3 ∨ i % 5 = 4 := by omega
  rcases e5 with e | e | e | e | e <;> simp [e] <;> rfl
theorem clearHr (w : World) (b o n c : Nat) (hn : 0 < n) (hc : ∀ j, j < n * 5 → (w.cell? ⟨b, o + j, none⟩).isSome = true) (hf : ∀ j, w.frozen? ⟨b, j, none⟩ = false) :
    ∃ vs : List Value, vs.length = n * 5 ∧ ∀ ty, (Builtin.clear_ #[25] ty #[.slice (some ⟨b, o, none⟩) n c]).run Try.prog w = .ok (.tuple #[]) (w.setCells b o vs) := by
  have hv : ∀ w, (zeroValue 39).run Try.prog w = .ok (.agg #[.int .i64 0, .bool false, .bool false, .bool false, .int .i64 0]) w := fun w => by kernel_rfl
  have hl : ((Builtin.zeroCells #[Value.int .i64 0, .bool false, .bool false, .bool false, .int .i64 0] n).toList).length = n * 5 := by simp [Builtin.zeroCells]
  refine ⟨(Builtin.zeroCells #[.int .i64 0, .bool false, .bool false, .bool false, .int .i64 0] n).toList, hl, fun ty => ?_⟩
  have hst := run_storeCells_cells (P := Try.prog) b o (Builtin.zeroCells #[Value.int .i64 0, .bool false, .bool false, .bool false, .int .i64 0] n).toList 0 w (by rw [hl]; simpa using hc) (fun j _ => hf _) (zeros_one n)
  simp only [Nat.add_zero] at hst
  obtain ⟨m, rfl⟩ : ∃ m, n = m + 1 := ⟨n - 1, by omega⟩
  simp [Builtin.clear_, run_underlying Try.underlying25, hv, Value.cells, hst]

theorem hr_snoc_last (L : List Hr) (x : Hr) : hr (L ++ [x]) L.length = x := by
  rw [hr_elem (by simp)]
  simp
theorem hr_snoc_left {L M : List Hr} {i : Nat} (h : i < L.length) : hr (L ++ M) i = hr L i := by
  rw [hr_elem h, hr_elem (by rw [List.length_append]; omega), List.getElem_append_left h]
theorem put5H {F : Nat → Value} {s : Nat} (x : Hr) {q : Nat} (hq : q < 5) : (fun j => if j = s + 4 then cellH x 4 else (fun j => if j = s + 3 then cellH x 3 else (fun j => if j = s + 2 then cellH x 2 else (fun j => if j = s + 1 then cellH x 1 else (fun j => if j = s then cellH x 0 else F j) j) j) j) j) (s + q) = cellH x q := by
  match q, hq with
  | 0, _ => simp
  | 1, _ => simp
  | 2, _ => simp
  | 3, _ => simp
  | 4, _ => simp

set_option maxRecDepth 100000 in
set_option maxHeartbeats 2000000 in
theorem deleteHr_some (Ok : Hr → Prop) (K : Nat) (caps : Array Value) (p : Hr → Bool) (kb n cap : Nat) (L : List Hr) (F : Nat → Value) (w : World) (hL : L.length = n) (hc : n ≤ cap) (hsm : cap ≤ maxLen) (hn : n ≤ 100000) (hG : w.rowIs kb 39 (cap * 5) F) (hGk : ∀ t, t < n → ∀ q, q < 5 → F (t * 5 + q) = cellH (hr L t) q)
    (eg : ∀ args w, (callFunc K args).run Try.prog w = .ok (.enter K args) w) (hok : ∀ i, i < n → Ok (hr L i)) (hT : TellsOffHr Ok (fun b => b = kb) K caps p w) :
    Calls Try.prog 16 #[.slice (some ⟨kb, 0, none⟩) n cap, .func (.func K) #[] caps] w fun e w' => e = .returned (.slice (some ⟨kb, 0, none⟩) (fltH p L).length cap) ∧ Off (fun b => b = kb) w w' ∧ HrsAt w' (some ⟨kb, 0, none⟩) (fltH p L) := by
  have hcap : cap ≤ 9223372036854775807 := by unfold maxLen at hsm; exact hsm
  have di := indexHr_any Ok K caps p (some ⟨kb, 0, none⟩) cap L w (by omega) (hrs_row (n := n) hG (by omega) (by rw [hL]; exact hGk)) eg (by rw [hL]; exact hok) (fun x w1 h1 hb => hT x w1 h1 (Off.of_below hb))
  rw [hL] at di
  have HG : Hid (w.rowIs kb 39 (cap * 5) F) := hG
  have HGk : Hid (∀ t, t < n → ∀ q, q < 5 → F (t * 5 + q) = cellH (hr L t) q) := hGk
  have HT : Hid (TellsOffHr Ok (fun b => b = kb) K caps p w) := hT
  have HOK : Hid (∀ i, i < n → Ok (hr L i)) := hok
  have HL : Hid (L.length = n) := hL
  have hkb := hG.lt
  clear hG hGk hT hL hsm hok
  go_enter Try.func16, Try.ntmps16
  go_wp2_with fail
  refine di.mono ?_
  rintro e w1 ⟨r, rfl, hb1, hr1⟩
  clear di
  rcases hr1 with ⟨rfl, hall⟩ | ⟨k, hk, rfl, hp, hf⟩
  · have hfl := fltH_all p L (by rw [HL.out]; exact hall)
    have E : Hid _ := hfl
    clear hall hfl
    go_wp2
    go_ret
    refine ⟨by rw [E.out, HL.out]; rfl, Off.of_below hb1, ?_⟩
    rw [E.out]
    exact hrs_row (n := n) (HG.out.of_block (hb1.block kb hkb)) (by rw [HL.out]; omega) (by rw [HL.out]; exact HGk.out)
  · have hk1 : ((k : Int) == -1) = false := beq_eq_false_iff_ne.2 (by omega)
    have F0 : Hid (fltH p (L.take (k + 1)) = L.take k) := by
      show _ = _
      rw [fltH_succ p L k (by rw [HL.out]; exact hk), hp, if_pos rfl, List.append_nil]
      refine fltH_all p _ (fun i hi => ?_)
      rw [List.length_take] at hi
      have hks := HL.out
      have h1 := hf i (by omega)
      rw [hr_elem (by omega)] at h1
      rw [hr_elem (by rw [List.length_take]; omega), List.getElem_take]
      exact h1
    have HR0 : Hid (w1.rowIs kb 39 (cap * 5) F) := HG.out.of_block (hb1.block kb hkb)
    have FI : Hid (∀ t, t < k → ∀ q, q < 5 → F (t * 5 + q) = cellH (hr (fltH p (L.take (k + 1))) t) q) := fun t ht q hq => by
      have hks := HL.out
      rw [F0.out, HGk.out t (by omega) q hq, hr_elem (by omega), hr_elem (by rw [List.length_take]; omega), List.getElem_take]
    have FL : Hid ((fltH p (L.take (k + 1))).length = k) := by
      have hks := HL.out
      show _ = _
      rw [F0.out, List.length_take]; omega
    have O1 : Hid (Off (fun b => b = kb) w w1) := Off.of_below hb1
    clear hp hf hb1
    go_wp2
    go_loopg [5, 6] n (fun g1 s5 s6 wr => ∃ (i j : Nat) (G2 : Nat → Value), i < j ∧ j ≤ n ∧ n - j ≤ g1 ∧ s5 = .int .i64 i ∧ s6 = .int .i64 j ∧ Hid (Off (fun b => b = kb) w wr) ∧ Hid (wr.rowIs kb 39 (cap * 5) G2) ∧ Hid ((fltH p (L.take j)).length = i) ∧ Hid (∀ t, t < i → ∀ q, q < 5 → G2 (t * 5 + q) = cellH (hr (fltH p (L.take j)) t) q) ∧ Hid (∀ t, j ≤ t → t < n → ∀ q, q < 5 → G2 (t * 5 + q) = cellH (hr L t) q))
    case atStart => exact ⟨k, k + 1, F, by omega, by omega, by omega, rfl, by go_num, O1, HR0, FL, FI, (show Hid _ from fun t _ ht => HGk.out t ht)⟩
    case round =>
      clear HR0 FI FL O1
      obtain ⟨i, j, G2, hij, hjL, hg1, rfl, rfl, O2, R2, L2, I2, J2⟩ := hrel
      have hkw : kb < wr.heap.size := R2.out.lt
      have hfz := R2.out.frozen
      by_cases hlt : j < n
      · have hlt2 : (j : Int) < (n : Int) := by omega
        have hin2 : (i : Int) < (n : Int) := by omega
        have JJ := J2.out j (Nat.le_refl _) hlt
        have d0 := R2.out.cell (i := j * 5) (by omega)
        have d1 := R2.out.cell (i := j * 5 + 1) (by omega)
        have d2 := R2.out.cell (i := j * 5 + 2) (by omega)
        have d3 := R2.out.cell (i := j * 5 + 3) (by omega)
        have d4 := R2.out.cell (i := j * 5 + 4) (by omega)
        rw [show G2 (j * 5) = cellH (hr L j) 0 from JJ 0 (by omega)] at d0
        rw [JJ 1 (by omega)] at d1
        rw [JJ 2 (by omega)] at d2
        rw [JJ 3 (by omega)] at d3
        rw [JJ 4 (by omega)] at d4
        have e0 := R2.out.cell (i := i * 5) (by omega)
        have e1 := R2.out.cell (i := i * 5 + 1) (by omega)
        have e2 := R2.out.cell (i := i * 5 + 2) (by omega)
        have e3 := R2.out.cell (i := i * 5 + 3) (by omega)
        have e4 := R2.out.cell (i := i * 5 + 4) (by omega)
        have hcall := fun o1 => HT.out (hr L j) (wr.alloc o1) (HOK.out j hlt) (O2.out.trans (Off.of_below (one_belowS wr o1)))
        have FS := fltH_succ p L j (by rw [HL.out]; exact hlt)
        clear JJ
        generalize hy : hr L j = y at *
        clear hy
        obtain ⟨yp, yd, yo, ys, yi⟩ := y
        simp only [cellH] at d0 d1 d2 d3 d4
        cases hq : p ⟨yp, yd, yo, ys, yi⟩ with
        | true =>
          rw [hq] at FS
          have HC : Hid _ := hcall
          rw [hq] at HC
          rw [if_pos rfl, List.append_nil] at FS
          have HFS : Hid _ := FS
          clear FS hcall hq
          go_wp2_with (go_at_fn K; refine (HC.out _).mono ?_; rintro e w2 ⟨rfl, hb2'⟩; have hb2 : Below wr.heap.size wr w2 := (one_belowS wr _).trans (hb2'.mono (by simp)); clear hb2')
          go_roundg (n - (j + 1))
          case measure => omega
          case rel => exact ⟨i, j + 1, G2, by omega, by omega, by omega, rfl, by go_num, O2.out.trans (Off.of_below hb2), R2.out.of_block (hb2.block kb hkw), (show _ = _ by rw [HFS.out]; exact L2.out), (show Hid _ from fun t ht => by rw [HFS.out]; exact I2.out t ht), (show Hid _ from fun t h1 h2 => J2.out t (by omega) h2)⟩
        | false =>
          rw [hq] at FS
          have HC : Hid _ := hcall
          rw [hq] at HC
          rw [if_neg (by simp)] at FS
          have HFS : Hid _ := FS
          clear FS hcall hq
          go_wp2_with (go_at_fn K; refine (HC.out _).mono ?_; rintro e w2 ⟨rfl, hb2'⟩; have hb2 : Below wr.heap.size wr w2 := (one_belowS wr _).trans (hb2'.mono (by simp)); have x0 := keepC (alloc_cell wr #[.int .i64 yp, .bool yd, .bool yo, .bool ys, .int .i64 yi] 39 0 rfl) hb2'; have x1 := keepC (alloc_cell wr #[.int .i64 yp, .bool yd, .bool yo, .bool ys, .int .i64 yi] 39 1 rfl) hb2'; have x2 := keepC (alloc_cell wr #[.int .i64 yp, .bool yd, .bool yo, .bool ys, .int .i64 yi] 39 2 rfl) hb2'; have x3 := keepC (alloc_cell wr #[.int .i64 yp, .bool yd, .bool yo, .bool ys, .int .i64 yi] 39 3 rfl) hb2'; have x4 := keepC (alloc_cell wr #[.int .i64 yp, .bool yd, .bool yo, .bool ys, .int .i64 yi] 39 4 rfl) hb2'; have y0 := keepC e0 hb2; have y1 := keepC e1 hb2; have y2 := keepC e2 hb2; have y3 := keepC e3 hb2; have y4 := keepC e4 hb2; have hfz2 := fun o => (hb2.frozen (by exact hkw)).trans (hfz o); have r2 := (R2.out.of_block (hb2.block kb hkw)); have RR : Hid (w2.rowIs kb 39 (cap * 5) G2) := r2; have kb2 : kb < w2.heap.size := r2.lt; clear hb2' r2)
          go_roundg (n - (j + 1))
          case measure => omega
          case rel =>
            refine ⟨i + 1, j + 1, _, by omega, by omega, by omega, by go_num, by go_num, (O2.out.trans (Off.of_below hb2)).trans (((((off_setCell (X := fun b => b = kb) _ rfl _).trans (off_setCell (X := fun b => b = kb) _ rfl _)).trans (off_setCell (X := fun b => b = kb) _ rfl _)).trans (off_setCell (X := fun b => b = kb) _ rfl _)).trans (off_setCell (X := fun b => b = kb) _ rfl _)), ((((RR.out.set (i * 5) (.int .i64 yp)).set (i * 5 + 1) (.bool yd)).set (i * 5 + 2) (.bool yo)).set (i * 5 + 3) (.bool ys)).set (i * 5 + 4) (.int .i64 yi), (show _ = _ by rw [HFS.out, List.length_append, L2.out]; rfl), (show Hid _ from fun t ht q hq => ?_), (show Hid _ from fun t h1 h2 q hq => ?_)⟩
            · rw [HFS.out]
              by_cases e : t = i
              · subst e
                have h5 := put5H (F := G2) (s := t * 5) ⟨yp, yd, yo, ys, yi⟩ hq
                have h6 : hr (fltH p (L.take j) ++ [⟨yp, yd, yo, ys, yi⟩]) t = ⟨yp, yd, yo, ys, yi⟩ := by
                  rw [← L2.out]
                  exact hr_snoc_last _ _
                rw [h6]
                exact h5
              · have h7 := I2.out t (by omega) q hq
                rw [hr_snoc_left (by rw [L2.out]; omega), ← h7]
                rw [if_neg (by omega), if_neg (by omega), if_neg (by omega), if_neg (by omega), if_neg (by omega)]
            · rw [if_neg (by omega), if_neg (by omega), if_neg (by omega), if_neg (by omega), if_neg (by omega)]
              exact J2.out t (by omega) h2 q hq
      · have hjL2 : j = n := by omega
        subst hjL2
        have hic : (i : Int) ≤ (cap : Int) := by omega
        have hiL : (i : Int) ≤ (j : Int) := by omega
        have EF : Hid (fltH p (L.take j) = fltH p L) := by
          show _ = _
          rw [← HL.out, List.take_length]
        obtain ⟨vs, hvl, hcl⟩ := clearHr wr kb (i * 5) (j - i) (cap - i) (by omega) (fun t ht => by rw [R2.out.cell (by omega)]; rfl) (fun t => hfz t)
        have HVL : Hid (vs.length = (j - i) * 5) := hvl
        have FIN : Hid (HrsAt (wr.setCells kb (i * 5) vs) (some ⟨kb, 0, none⟩) (fltH p L)) := by
          refine hrs_row (n := i) (row_setCells vs (i * 5) wr G2 R2.out) (by rw [← EF.out, L2.out]; omega) (fun t ht q hq => ?_)
          rw [← EF.out, L2.out] at ht
          rw [if_neg (by omega), I2.out t ht q hq, EF.out]
        have HO : Hid (Off (fun b => b = kb) w (wr.setCells kb (i * 5) vs)) := O2.out.trans (off_setCells (X := fun b => b = kb) rfl vs (i * 5) wr)
        have HLN : Hid ((fltH p L).length = i) := (by rw [← EF.out]; exact L2.out : (fltH p L).length = i)
        clear hvl O2 R2 L2 I2 J2 EF
        go_wp2
        go_ret
        exact ⟨by rw [HLN.out]; rfl, HO.out, FIN.out⟩

set_option maxRecDepth 100000 in
set_option maxHeartbeats 1000000 in
theorem deleteHr_none (Ok : Hr → Prop) (K : Nat) (caps : Array Value) (p : Hr → Bool) (w : World) (eg : ∀ args w, (callFunc K args).run Try.prog w = .ok (.enter K args) w) (hT : TellsHr Ok K caps p w) :
    Calls Try.prog 16 #[.slice none 0 0, .func (.func K) #[] caps] w fun e w' => e = .returned (.slice none 0 0) ∧ Below w.heap.size w w' := by
  have di := indexHr_any Ok K caps p none 0 [] w (by simp) (fun i hi => absurd hi (Nat.not_lt_zero _)) eg (fun i hi => absurd hi (Nat.not_lt_zero _)) hT
  have DI : Hid _ := di
  clear di hT
  go_enter Try.func16, Try.ntmps16
  go_wp2_with fail
  refine Calls.mono DI.out ?_
  rintro e w1 ⟨r, rfl, hb1, hr1⟩
  have hr2 : r = -1 := by
    rcases hr1 with ⟨h, _⟩ | ⟨k, hk, _⟩
    · exact h
    · simp at hk
  subst hr2
  have HB : Hid (Below w.heap.size w w1) := hb1
  clear hr1 hb1
  go_wp2_with fail
  go_ret
  exact ⟨rfl, HB.out⟩

/-- Once, and has heard. -/
def gonePF (T : List Int) (h : Hr) : Bool := h.on && decide (h.id ∈ T)
theorem left_flt (L : List Hr) (T : List Int) : fltH (gonePF T) L = leftF L T := rfl

set_option maxRecDepth 100000 in
set_option maxHeartbeats 1000000 in
theorem disp2_any (mbx hm : Nat) (T : List Int) (n : Nat) (x : Hr) (w : World) (hx : (Lit.int .i64 x.id).wf = true) (hb : w.cell? ⟨mbx, 0, none⟩ = some (.map (some hm))) (hs : SetAt w hm n T) (hlt : hm < w.heap.size) :
    Calls Try.prog 18 #[.agg #[.int .i64 x.pl, .bool x.dn, .bool x.on, .bool x.st, .int .i64 x.id], .pointer (some ⟨mbx, 0, none⟩)] w fun e w' => e = .returned (.bool (gonePF T x)) ∧ Below w.heap.size w w' := by
  unfold gonePF
  obtain ⟨xp, xd, xo, xs, xi⟩ := x
  dsimp only at hx ⊢
  have c0 : (w.alloc (.cells #[.int .i64 xp, .bool xd, .bool xo, .bool xs, .int .i64 xi] 39)).cell? ⟨mbx, 0, none⟩ = some (.map (some hm)) := keepC hb (one_belowS _ _)
  have hlook : ∀ o1, (Instr.lookup 46 (.map (some hm)) (.int .i64 xi) true).run Try.prog (w.alloc o1) = .ok (.tuple #[.agg #[], .bool (decide (xi ∈ T))]) (w.alloc o1) := fun o1 => SetAt.look (RawAt.kept hs ((one_belowS w o1).block _ hlt)) hx
  have q0 := World.block_lt_of_cell? _ _ hb
  have HB2 : Hid (∀ o1 o2, Below w.heap.size w ((w.alloc o1).alloc o2)) := fun o1 o2 => two_belowS w o1 o2
  clear hs hb hx
  generalize decide (xi ∈ T) = r at *
  cases xo <;> cases r
  all_goals
    go_enter Try.func18, Try.ntmps18
    go_wp2_with fail
    go_ret
    exact ⟨rfl, HB2.out _ _⟩
end Go.Proofs.Ytplkfacaphejgaa
