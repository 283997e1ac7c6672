/-
  The reference's Discarded, LengthOf, FrameAttached.
-/
import Derived.Test.YtfnfcldkadfpmaaJFe
import Derived.Test.YtfnfcldkadfpmaaJFf
import Derived.Test.YtfnfcldkadfpmaaJFj
import Derived.Laws.AppendOwn
namespace Go.Proofs.Ytfnfcldkadfpmaa
open Go.RowKit
set_option linter.unusedVariables false

theorem fcells_get (M : List Fr) {m : Nat} (hm : m < M.length * 5) : (fcells M)[m]? = some (frF M m) := by
  unfold fcells
  rw [List.getElem?_map, List.getElem?_range hm]
  rfl
def cells5 (x : Fr) : List Value := [.int .i64 x.p, .int .i64 x.o, .int .i64 x.m, .int .i64 x.t, .bool x.g]
theorem fcells_snoc (L : List Fr) (x : Fr) : fcells (L ++ [x]) = fcells L ++ cells5 x := by
  refine List.ext_getElem? (fun m => ?_)
  have hx := fr_last L x
  have hlen : (fcells L).length = L.length * 5 := fcells_len L
  by_cases h1 : m < L.length * 5
  · rw [List.getElem?_append_left (by rw [hlen]; exact h1), fcells_get _ h1, fcells_get _ (by rw [List.length_append, List.length_singleton]; omega)]
    exact congrArg some (frF_congr (fr_left (by omega)))
  · rw [List.getElem?_append_right (by rw [hlen]; omega), hlen]
    by_cases h2 : m < L.length * 5 + 5
    · rw [fcells_get _ (by rw [List.length_append, List.length_singleton]; omega)]
      obtain ⟨j, rfl⟩ : ∃ j, m = L.length * 5 + j := ⟨m - L.length * 5, by omega⟩
      have hj : j < 5 := by omega
      rw [frF_at _ _ j hj, hx, show L.length * 5 + j - L.length * 5 = j by omega]
      match j, hj with
      | 0, _ => rfl
      | 1, _ => rfl
      | 2, _ => rfl
      | 3, _ => rfl
      | 4, _ => rfl
    · rw [List.getElem?_eq_none (by rw [fcells_len, List.length_append, List.length_singleton]; omega), List.getElem?_eq_none (by simp [cells5]; omega)]
theorem frs_own {B : Nat} {w : World} {v : Value} {L : List Fr} (h : w.ownsRow B 35 5 v L.length (fcells L)) : ∃ a c, v = .slice a L.length c ∧ FrsAt w a L := by
  have hc := fun g hg => h.cells (g := g) hg
  rcases h.2 with ⟨rfl, h0⟩ | ⟨g, cap, cur, rfl, _⟩
  · exact ⟨none, 0, by rw [h0], fun i hi => by omega⟩
  · refine ⟨some ⟨g, 0, none⟩, cap, rfl, fun i hi => ⟨g, 0, rfl, ?_⟩⟩
    have hx : ∀ j, j < 5 → w.cell? ⟨g, 0 + i * 5 + j, none⟩ = some (cellF (fr L i) j) := fun j hj => by
      have := hc g rfl (i * 5 + j) _ (fcells_get L (by omega))
      rw [frF_at L i j hj] at this
      rw [Nat.zero_add]
      rwa [Addr.add_lit, Nat.zero_add] at this
    exact ⟨hx 0 (by omega), hx 1 (by omega), hx 2 (by omega), hx 3 (by omega), hx 4 (by omega)⟩
theorem cells5_one (x : Fr) : ∀ u ∈ cells5 x, u.oneCell' = true := fun u hu => by
  unfold cells5 at hu
  simp at hu
  rcases hu with rfl | rfl | rfl | rfl | rfl <;> rfl
theorem news5 {w : World} {b : Nat} {x : Fr} (c0 : w.cell? ⟨b, 0, none⟩ = some (.int .i64 x.p)) (c1 : w.cell? ⟨b, 1, none⟩ = some (.int .i64 x.o)) (c2 : w.cell? ⟨b, 2, none⟩ = some (.int .i64 x.m)) (c3 : w.cell? ⟨b, 3, none⟩ = some (.int .i64 x.t)) (c4 : w.cell? ⟨b, 4, none⟩ = some (.bool x.g)) : ∀ j u, (cells5 x)[j]? = some u → w.cell? ((⟨b, 0, none⟩ : Addr).add j) = some u := fun j u hj => by
  rw [Addr.add_lit, Nat.zero_add]
  unfold cells5 at hj
  match j, hj with
  | 0, hj => cases hj; exact c0
  | 1, hj => cases hj; exact c1
  | 2, hj => cases hj; exact c2
  | 3, hj => cases hj; exact c3
  | 4, hj => cases hj; exact c4
theorem row_slice {w : World} {B t n : Nat} {size : Nat} {v : Value} {xs : List Value} (h : w.ownsRow B t size v n xs) : ∃ va vc, v = .slice va n vc := by
  rcases h.2 with ⟨e, e0⟩ | ⟨g, cap, cur, e, _⟩
  · exact ⟨none, 0, by rw [e, e0]⟩
  · exact ⟨_, cap, e⟩
theorem ints_oneF {w : World} {b : Nat} {x : Int} (h0 : w.cell? ⟨b, 0, none⟩ = some (.int .i64 x)) : IntsAt w (some ⟨b, 0, none⟩) [x] := fun i hi => by
  match i, hi with
  | 0, _ => exact ⟨b, 0, rfl, h0⟩

/-- Asked of one number. -/
theorem rframed_one (a : Option Addr) (c kb : Nat) (L : List Fr) (k : Int) (w : World) (hN : L.length ≤ 9223372036854775807) (hL : FrsAt w a L) (hk : w.cell? ⟨kb, 0, none⟩ = some (.int .i64 k)) :
    Calls Try.prog 23 #[.slice a L.length c, .slice (some ⟨kb, 0, none⟩) 1 1] w fun e w' => e = .returned (.int .i64 (heldE L k)) ∧ Below w.heap.size w w' :=
  rframed_any a (some ⟨kb, 0, none⟩) c 1 L [k] w hN (by simp) hL (ints_oneF hk)

set_option maxRecDepth 100000 in
set_option maxHeartbeats 1000000 in
theorem rlength_err (a : Option Addr) (c : Nat) (L : List Fr) (k : Int) (w : World) (hN : L.length ≤ 9223372036854775807) (hL : FrsAt w a L) (hE : heldE L k ≠ 0) :
    Calls Try.prog 11 #[.slice a L.length c, .int .i64 k] w fun e w' => e = .returned (.tuple #[.int .i64 0, .int .i64 (heldE L k)]) ∧ Below w.heap.size w w' := by
  have D : Hid (∀ kb W, FrsAt W a L → W.cell? ⟨kb, 0, none⟩ = some (.int .i64 k) → _) := fun kb W h1 h2 => rframed_one a c kb L k W hN h1 h2
  have HL : Hid (FrsAt w a L) := hL
  have e2 : decide (heldE L k = 0) = false := decide_eq_false hE
  clear hL
  generalize heldE L k = E at *
  obtain ⟨n, hn⟩ : ∃ n, L.length = n := ⟨_, rfl⟩
  rw [hn] at hN D ⊢
  clear hn
  go_enter Try.func11, Try.ntmps11
  go_wp2_with fail
  refine Calls.mono (D.out _ _ (HL.out.below (one_belowS _ _)) (by go_simp)) ?_
  rintro e w1 ⟨rfl, hb1⟩
  have HB1 : Hid (Below w.heap.size w w1) := (one_belowS w _).trans (hb1.mono (by simp))
  clear hb1
  go_wp2_with fail
  exact bodyPost_ret (v := .tuple #[.int .i64 0, .int .i64 E]) (by simp [results, Try.results11, go_sem]) rfl ⟨rfl, HB1.out⟩

set_option maxRecDepth 100000 in
set_option maxHeartbeats 1000000 in
theorem rdiscard_err (a : Option Addr) (c : Nat) (L : List Fr) (k : Int) (w : World) (hN : L.length ≤ 9223372036854775807) (hL : FrsAt w a L) (hE : heldE L k ≠ 0) :
    Calls Try.prog 10 #[.slice a L.length c, .int .i64 k] w fun e w' => e = .returned (.tuple #[.slice none 0 0, .int .i64 (heldE L k)]) ∧ Below w.heap.size w w' := by
  have D : Hid (∀ kb W, FrsAt W a L → W.cell? ⟨kb, 0, none⟩ = some (.int .i64 k) → _) := fun kb W h1 h2 => rframed_one a c kb L k W hN h1 h2
  have HL : Hid (FrsAt w a L) := hL
  have e2 : decide (heldE L k = 0) = false := decide_eq_false hE
  clear hL
  generalize heldE L k = E at *
  obtain ⟨n, hn⟩ : ∃ n, L.length = n := ⟨_, rfl⟩
  rw [hn] at hN D ⊢
  clear hn
  go_enter Try.func10, Try.ntmps10
  go_wp2_with fail
  refine Calls.mono (D.out _ _ (HL.out.below (one_belowS _ _)) (by go_simp)) ?_
  rintro e w1 ⟨rfl, hb1⟩
  have HB1 : Hid (Below w.heap.size w w1) := (one_belowS w _).trans (hb1.mono (by simp))
  clear hb1
  go_wp2_with fail
  exact bodyPost_ret (v := .tuple #[.slice none 0 0, .int .i64 E]) (by simp [results, Try.results10, go_sem]) rfl ⟨rfl, HB1.out⟩

theorem fholds_at {L : List Fr} {i : Nat} (h : i < L.length) : fholdsE L i = if (fr L i).g = true then 5 else 0 := by
  unfold fholdsE
  rw [if_neg (by omega), Int.toNat_natCast]

set_option maxRecDepth 100000 in
set_option maxHeartbeats 1000000 in
theorem rlength_ok (a : Option Addr) (c : Nat) (L : List Fr) (k : Int) (w : World) (hN : L.length ≤ 8) (hL : FrsAt w a L) (hE : heldE L k = 0) :
    Calls Try.prog 11 #[.slice a L.length c, .int .i64 k] w fun e w' => e = .returned (.tuple #[.int .i64 (lenF L k : Nat), .int .i64 0]) ∧ Below w.heap.size w w' := by
  have D : Hid (∀ kb W, FrsAt W a L → W.cell? ⟨kb, 0, none⟩ = some (.int .i64 k) → _) := fun kb W h1 h2 => rframed_one a c kb L k W (by omega) h1 h2
  rw [hE] at D
  have HL : Hid (FrsAt w a L) := hL
  have DH : Hid (∀ (i : Nat) W, FrsAt W a L → _) := fun i W h1 => rfholds_any a c L (i : Int) W (by omega) h1
  have FH : Hid (∀ i, i < L.length → fholdsE L i = if (fr L i).g = true then 5 else 0) := fun i hi => fholds_at hi
  have ST : Hid (∀ j, j < L.length → lenF (L.take (j + 1)) k = lenF (L.take j) k + (if (fr L j).p = k ∧ (fr L j).g = false then 1 else 0)) := fun j hj => len_step k hj
  have EN : Hid (lenF (L.take L.length) k = lenF L k) := (by rw [List.take_length] : lenF (L.take L.length) k = lenF L k)
  have Z : Hid (lenF (L.take 0) k = 0) := rfl
  clear hL hE
  obtain ⟨r, hr⟩ : ∃ r, lenF L k = r := ⟨_, rfl⟩
  rw [hr] at EN ⊢
  clear hr
  obtain ⟨n, hn⟩ : ∃ n, L.length = n := ⟨_, rfl⟩
  have HN : Hid (L.length = n) := hn
  rw [hn] at hN ST EN D DH FH ⊢
  clear hn
  go_enter Try.func11, Try.ntmps11
  go_wp2_with fail
  refine Calls.mono (D.out _ _ (HL.out.below (one_belowS _ _)) (by go_simp)) ?_
  rintro e w1 ⟨rfl, hb1⟩
  have HB1 : Hid (Below w.heap.size w w1) := (one_belowS w _).trans (hb1.mono (by simp))
  clear hb1 D
  go_wp2_with fail
  go_loopg [7, 18] n (fun g s7 s18 wr => ∃ (i q : Nat), i ≤ n ∧ n - i ≤ g ∧ s18 = .int .i64 i ∧ s7 = .int .i64 q ∧ q ≤ i ∧ Hid (Below w.heap.size w wr) ∧ Hid (lenF (L.take i) k = q))
  case atStart => exact ⟨0, 0, by omega, by omega, rfl, rfl, by omega, HB1, Z⟩
  case round =>
    obtain ⟨i, q, hi, hg, rfl, rfl, hq, HBr, HEi⟩ := hrel
    clear HB1
    by_cases hlt : i < n
    · have hlt2 : (i : Int) < (n : Int) := by omega
      obtain ⟨b, o, ea, c0, c1, c2, c3, c4⟩ := (HL.out.below HBr.out) i (by rw [HN.out]; exact hlt)
      have DI := DH.out i wr (HL.out.below HBr.out)
      rw [FH.out i hlt] at DI
      subst ea
      have STi := ST.out i hlt
      rw [HEi.out] at STi
      generalize fr L i = x at *
      obtain ⟨xp, xo, xm, xt, xg⟩ := x
      dsimp only at c0 c1 c2 c3 c4 STi DI
      by_cases hp : xp = k
      · subst hp
        cases xg
        · have HEE : Hid (lenF (L.take (i + 1)) xp = q + 1) := by rw [if_pos ⟨rfl, rfl⟩] at STi; exact STi
          rw [if_neg (by simp)] at DI
          have DIH : Hid _ := DI
          clear STi DI
          go_wp2_with fail
          refine Calls.mono DIH.out ?_
          rintro e w5 ⟨rfl, hw5⟩
          have hw6 := hw5.symm
          clear hw5
          subst hw6
          go_wp2_with fail
          go_roundg (n - (i + 1))
          case measure => omega
          case rel => exact ⟨i + 1, q + 1, by omega, by omega, by go_num, by go_num, by omega, HBr, HEE⟩
        · have HEE : Hid (lenF (L.take (i + 1)) xp = q) := by rw [if_neg (by simp)] at STi; exact STi
          rw [if_pos rfl] at DI
          have DIH : Hid _ := DI
          clear STi DI
          go_wp2_with fail
          refine Calls.mono DIH.out ?_
          rintro e w5 ⟨rfl, hw5⟩
          have hw6 := hw5.symm
          clear hw5
          subst hw6
          go_wp2_with fail
          go_roundg (n - (i + 1))
          case measure => omega
          case rel => exact ⟨i + 1, q, by omega, by omega, by go_num, rfl, by omega, HBr, HEE⟩
      · have HEE : Hid (lenF (L.take (i + 1)) k = q) := by rw [if_neg (fun hh => hp hh.1)] at STi; exact STi
        have hp2 : decide (xp = k) = false := decide_eq_false hp
        have hp3 : (xp == k) = false := beq_eq_false_iff_ne.2 hp
        clear STi DI
        go_wp2_with fail
        go_roundg (n - (i + 1))
        case measure => omega
        case rel => exact ⟨i + 1, q, by omega, by omega, by go_num, rfl, by omega, HBr, HEE⟩
    · have hie : i = n := by omega
      subst hie
      have HEE : Hid (q = r) := HEi.out.symm.trans EN.out
      clear HEi
      go_wp2_with fail
      exact bodyPost_ret (v := .tuple #[.int .i64 (q : Int), .int .i64 0]) (by simp [results, Try.results11, go_sem]) rfl ⟨by rw [HEE.out], HBr.out⟩

theorem dis_take {L : List Fr} {k : Int} {i : Nat} (h : i < L.length) : fcells ((disF L k).take (i + 1)) = fcells ((disF L k).take i) ++ cells5 { fr L i with g := (fr L i).g || inF L i k } := by
  have h2 : i < (disF L k).length := by rw [dis_len]; exact h
  rw [List.take_succ_eq_append_getElem h2, fcells_snoc, ← fr_elem h2, dis_at h]

set_option maxRecDepth 100000 in
set_option maxHeartbeats 2000000 in
theorem rdiscard_ok (a : Option Addr) (c : Nat) (L : List Fr) (k : Int) (w : World) (R : RightF L) (hL : FrsAt w a L) (hE : heldE L k = 0) :
    Calls Try.prog 10 #[.slice a L.length c, .int .i64 k] w fun e w' => ∃ va vc, e = .returned (.tuple #[.slice va (disF L k).length vc, .int .i64 0]) ∧ Below w.heap.size w w' ∧ FrsAt w' va (disF L k) := by
  have hN := R.few
  have D : Hid (∀ kb W, FrsAt W a L → W.cell? ⟨kb, 0, none⟩ = some (.int .i64 k) → _) := fun kb W h1 h2 => rframed_one a c kb L k W (by omega) h1 h2
  rw [hE] at D
  have HL : Hid (FrsAt w a L) := hL
  have DW : Hid (∀ (i : Nat) W, FrsAt W a L → _) := fun i W h1 => rwithin_any a c L (i : Int) k W R h1
  obtain ⟨i0, hi0, hz0, hz1, hz2⟩ := info_parts infoFrame
  have TK : Hid (∀ i, i < L.length → fcells ((disF L k).take (i + 1)) = fcells ((disF L k).take i) ++ cells5 { fr L i with g := (fr L i).g || inF L i k }) := fun i hi => dis_take hi
  have FIN : Hid (∀ v W, W.ownsRow w.heap.size 35 5 v L.length (fcells ((disF L k).take L.length)) → ∃ va vc, v = .slice va (disF L k).length vc ∧ FrsAt W va (disF L k)) := fun v W h => by
    rw [← dis_len L k, List.take_length] at h
    exact frs_own h
  clear hL hE R
  generalize disF L k = DF at *
  obtain ⟨n, hn⟩ : ∃ n, L.length = n := ⟨_, rfl⟩
  have HN : Hid (L.length = n) := hn
  rw [hn] at hN D DW TK FIN ⊢
  clear hn
  go_enter Try.func10, Try.ntmps10
  go_wp2_with fail
  refine Calls.mono (D.out _ _ (HL.out.below (one_belowS _ _)) (by go_simp)) ?_
  rintro e w1 ⟨rfl, hb1⟩
  have HB1 : Hid (Below w.heap.size w w1) := (one_belowS w _).trans (hb1.mono (by simp))
  clear hb1 D
  have OW0 : Hid (w1.ownsRow w.heap.size 35 5 (.slice none 0 0) 0 (fcells (DF.take 0))) := World.ownsRow_nil _ _ _ _
  go_wp2_with fail
  go_loopg [7, 19] n (fun g s7 s19 wr => ∃ (i : Nat) (v : Value), i ≤ n ∧ n - i ≤ g ∧ s19 = .int .i64 i ∧ s7 = v ∧ Hid (Below w.heap.size w wr) ∧ Hid (wr.ownsRow w.heap.size 35 5 v i (fcells (DF.take i))))
  case atStart => exact ⟨0, _, by omega, by omega, rfl, rfl, HB1, OW0⟩
  case round =>
    obtain ⟨i, v, hi, hg, rfl, rfl, HBr, OW⟩ := hrel
    clear HB1 OW0
    obtain ⟨va, vc, rfl⟩ := row_slice OW.out
    by_cases hlt : i < n
    · have hlt2 : (i : Int) < (n : Int) := by omega
      obtain ⟨b, o, ea, c0, c1, c2, c3, c4⟩ := (HL.out.below HBr.out) i (by rw [HN.out]; exact hlt)
      have HBA : Hid (∀ o1, Below w.heap.size w (wr.alloc o1)) := fun o1 => HBr.out.trans ((one_belowS wr o1).mono HBr.out.size)
      have dwi := fun W hW => DW.out i W hW
      have tki := TK.out i hlt
      subst ea
      have q0 := World.block_lt_of_cell? _ _ c0
      have hsz := HBr.out.size
      generalize fr L i = x at *
      obtain ⟨xp, xo, xm, xt, xg⟩ := x
      dsimp only at c0 c1 c2 c3 c4 tki
      obtain ⟨r, hr⟩ : ∃ r, inF L (i : Int) k = r := ⟨_, rfl⟩
      rw [hr] at dwi tki
      have TKi : Hid _ := tki
      have DWi : Hid _ := dwi
      clear tki dwi hr
      have OM : Hid (∀ (o1 o2 : Obj), ((wr.alloc o1).alloc o2).ownsRow w.heap.size 35 5 (.slice va i vc) i (fcells (DF.take i))) := fun o1 o2 => (OW.out.alloc o1).alloc o2
      have HBM : Hid (∀ (o1 o2 : Obj), Below w.heap.size w ((wr.alloc o1).alloc o2)) := fun o1 o2 => HBr.out.trans ((two_belowS wr o1 o2).mono HBr.out.size)
      have hb63 : i + 1 ≤ maxLen := by unfold maxLen; omega
      have hb47 : (i + 1) * 40 ≤ 140737488355328 := by omega
      cases xg
      · go_wp2_with fail
        refine Calls.mono (DWi.out _ (HL.out.below (HBA.out _))) ?_
        rintro e w5 ⟨rfl, hw5⟩
        have hw6 := hw5.symm
        clear hw5
        subst hw6
        simp only [Bool.false_or] at TKi
        go_wp2_with (at_builtin; refine wpList_append_own _ rfl (.tmp 33) (.tmp 35) 22 rfl w.heap.size 35 i0 (.agg #[.int .i64 0, .int .i64 0, .int .i64 0, .int .i64 0, .bool false]) 5 40 Try.underlying22 hi0 hz0 hz1 hz2 rfl (by decide) (.slice va i vc) i (fcells (DF.take i)) ?hs ?how ⟨wr.heap.size + 1, 0, none⟩ 1 1 (cells5 ⟨xp, xo, xm, xt, r⟩) ?hx rfl ?c1 ?c2 hb63 hb47 ?hbase ?_)
        case how => exact OM.out _ _
        try case hs => rfl
        try case hx => rfl
        case c1 => first | exact fun j u h => h | exact news5 (by go_simp) (by go_simp) (by go_simp) (by go_simp) (by go_simp)
        case c2 => exact cells5_one _
        case hbase => first | omega | (simp; omega)
        intro v2 w3 own3 grow3 _
        have OW3 : Hid (w3.ownsRow w.heap.size 35 5 v2 (i + 1) (fcells (DF.take (i + 1)))) := by
          have h := TKi.out
          show w3.ownsRow _ _ _ _ _ _
          rw [h]
          exact own3
        have HB3 : Hid (Below w.heap.size w w3) := (HBM.out _ _).grown grow3 (HBM.out _ _).size (fun kk hk => (OW.out.lt kk hk).1)
        obtain ⟨va2, vc2, rfl⟩ := row_slice own3
        clear own3 grow3 OM HBM
        go_wp2_with fail
        go_roundg (n - (i + 1))
        case measure => omega
        case rel => exact ⟨i + 1, _, by omega, by omega, by go_num, rfl, HB3, OW3⟩
      · simp only [Bool.true_or] at TKi
        go_wp2_with (at_builtin; refine wpList_append_own _ rfl (.tmp 33) (.tmp 35) 22 rfl w.heap.size 35 i0 (.agg #[.int .i64 0, .int .i64 0, .int .i64 0, .int .i64 0, .bool false]) 5 40 Try.underlying22 hi0 hz0 hz1 hz2 rfl (by decide) (.slice va i vc) i (fcells (DF.take i)) ?hs2 ?how2 ⟨wr.heap.size + 1, 0, none⟩ 1 1 (cells5 ⟨xp, xo, xm, xt, true⟩) ?hx2 rfl ?c12 ?c22 hb63 hb47 ?hbase2 ?_)
        case how2 => exact OM.out _ _
        try case hs2 => rfl
        try case hx2 => rfl
        case c12 => first | exact fun j u h => h | exact news5 (by go_simp) (by go_simp) (by go_simp) (by go_simp) (by go_simp)
        case c22 => exact cells5_one _
        case hbase2 => first | omega | (simp; omega)
        intro v2 w3 own3 grow3 _
        have OW3 : Hid (w3.ownsRow w.heap.size 35 5 v2 (i + 1) (fcells (DF.take (i + 1)))) := by
          have h := TKi.out
          show w3.ownsRow _ _ _ _ _ _
          rw [h]
          exact own3
        have HB3 : Hid (Below w.heap.size w w3) := (HBM.out _ _).grown grow3 (HBM.out _ _).size (fun kk hk => (OW.out.lt kk hk).1)
        obtain ⟨va2, vc2, rfl⟩ := row_slice own3
        clear own3 grow3 OM HBM
        go_wp2_with fail
        go_roundg (n - (i + 1))
        case measure => omega
        case rel => exact ⟨i + 1, _, by omega, by omega, by go_num, rfl, HB3, OW3⟩
    · have hie : i = n := by omega
      subst hie
      obtain ⟨va', vc', e1, hF⟩ := FIN.out _ _ OW.out
      cases e1
      have HF : Hid _ := hF
      have HLE : Hid (DF.length = DF.length) := rfl
      clear hF OW
      go_wp2_with fail
      exact bodyPost_ret (v := .tuple #[.slice va DF.length vc, .int .i64 0]) (by simp [results, Try.results10, go_sem]) rfl (by first | exact ⟨va, vc, rfl, HBr.out, HF.out⟩ | exact ⟨va, ⟨vc, rfl⟩, HBr.out, HF.out⟩)

theorem rlength_any (a : Option Addr) (c : Nat) (L : List Fr) (k : Int) (w : World) (hN : L.length ≤ 9223372036854775807) (hL : FrsAt w a L) :
    Calls Try.prog 11 #[.slice a L.length c, .int .i64 k] w fun e w' => e = .returned (.tuple #[.int .i64 (resL L k), .int .i64 (heldE L k)]) ∧ Below w.heap.size w w' := by
  unfold resL
  by_cases hE : heldE L k = 0
  · rw [if_pos hE, hE]
    exact rlength_ok a c L k w (held_zero hE).1.few hL hE
  · rw [if_neg hE]
    exact rlength_err a c L k w hN hL hE
theorem rdiscard_any (a : Option Addr) (c : Nat) (L : List Fr) (k : Int) (w : World) (hN : L.length ≤ 9223372036854775807) (hL : FrsAt w a L) :
    Calls Try.prog 10 #[.slice a L.length c, .int .i64 k] w fun e w' => ∃ va vc, e = .returned (.tuple #[.slice va (resD L k).length vc, .int .i64 (heldE L k)]) ∧ Below w.heap.size w w' ∧ FrsAt w' va (resD L k) := by
  by_cases hE : heldE L k = 0
  · have e : resD L k = disF L k := if_pos hE
    rw [e, hE]
    exact rdiscard_ok a c L k w (held_zero hE).1 hL hE
  · have e : resD L k = [] := if_neg hE
    rw [e]
    refine (rdiscard_err a c L k w hN hL hE).mono ?_
    rintro e w' ⟨rfl, hb⟩
    exact ⟨none, 0, rfl, hb, fun i hi => absurd hi (Nat.not_lt_zero _)⟩

set_option maxRecDepth 100000 in
set_option maxHeartbeats 2000000 in
theorem rattach_held (a : Option Addr) (c : Nat) (L : List Fr) (k o m : Int) (w : World) (hN : L.length ≤ 9223372036854775807) (hL : FrsAt w a L) (h : heldE L k ≠ 0) :
    Calls Try.prog 9 #[.slice a L.length c, .int .i64 k, .int .i64 o, .int .i64 m] w fun e w' => e = .returned (.tuple #[.slice none 0 0, .int .i64 (attE L k o m)]) ∧ Below w.heap.size w w' := by
  rw [att_held h]
  have D : Hid (∀ kb W, FrsAt W a L → W.cell? ⟨kb, 0, none⟩ = some (.int .i64 k) → _) := fun kb W h1 h2 => rframed_one a c kb L k W hN h1 h2
  have HL : Hid (FrsAt w a L) := hL
  have e2 : decide (heldE L k = 0) = false := decide_eq_false h
  have e3 : (heldE L k == 0) = false := beq_eq_false_iff_ne.2 h
  clear hL
  generalize heldE L k = E at *
  obtain ⟨n, hn⟩ : ∃ n, L.length = n := ⟨_, rfl⟩
  rw [hn] at hN D ⊢
  clear hn
  go_enter Try.func9, Try.ntmps9
  go_wp2_with fail
  refine Calls.mono (D.out _ _ (HL.out.below (one_belowS _ _)) (by go_simp)) ?_
  rintro e w1 ⟨rfl, hb1⟩
  have HB1 : Hid (Below w.heap.size w w1) := (one_belowS w _).trans (hb1.mono (by simp))
  clear hb1
  go_wp2_with fail
  exact bodyPost_ret (v := .tuple #[.slice none 0 0, .int .i64 E]) (by simp [results, Try.results9, go_sem]) rfl ⟨rfl, HB1.out⟩

set_option maxRecDepth 100000 in
set_option maxHeartbeats 2000000 in
theorem rattach_origin (a : Option Addr) (c : Nat) (L : List Fr) (k o m : Int) (w : World) (hN : L.length ≤ 9223372036854775807) (hL : FrsAt w a L) (h : heldE L k = 0) (h2 : ¬ (0 ≤ o ∧ o ≤ 9)) :
    Calls Try.prog 9 #[.slice a L.length c, .int .i64 k, .int .i64 o, .int .i64 m] w fun e w' => e = .returned (.tuple #[.slice none 0 0, .int .i64 (attE L k o m)]) ∧ Below w.heap.size w w' := by
  rw [att_range h (fun hh => h2 hh.1)]
  have D : Hid (∀ kb W, FrsAt W a L → W.cell? ⟨kb, 0, none⟩ = some (.int .i64 k) → _) := fun kb W h1 h2 => rframed_one a c kb L k W hN h1 h2
  have HL : Hid (FrsAt w a L) := hL
  rw [h] at D
  obtain ⟨R, q, rfl, hq, hg⟩ := held_zero h
  have hfew := R.few
  have hq2 : (q : Int) < (L.length : Int) := by omega
  have hmy := R.may hq
  obtain ⟨b, ao, ea, _, _, c2, _, _⟩ := hL q hq
  subst ea
  have d1 := rinF_any o 0 9
  rw [decide_eq_false h2] at d1
  have DO : Hid _ := d1
  clear d1 h2
  clear hL h R hg
  generalize (fr L q).m = pm at *
  obtain ⟨n, hn⟩ : ∃ n, L.length = n := ⟨_, rfl⟩
  rw [hn] at hN D hfew hq hq2  ⊢
  clear hn
  go_enter Try.func9, Try.ntmps9
  go_wp2_with fail
  refine Calls.mono (D.out _ _ (HL.out.below (one_belowS _ _)) (by go_simp)) ?_
  rintro e w1 ⟨rfl, hb1⟩
  have HB1 : Hid (Below w.heap.size w w1) := (one_belowS w _).trans (hb1.mono (by simp))
  clear hb1
  go_wp2_with fail
  refine Calls.mono (DO.out _) ?_
  rintro e w2 ⟨rfl, hw2⟩
  have hw3 := hw2.symm
  clear hw2
  subst hw3
  go_wp2_with fail
  exact bodyPost_ret (v := .tuple #[.slice none 0 0, .int .i64 2]) (by simp [results, Try.results9, go_sem]) rfl ⟨rfl, HB1.out⟩

set_option maxRecDepth 100000 in
set_option maxHeartbeats 2000000 in
theorem rattach_may (a : Option Addr) (c : Nat) (L : List Fr) (k o m : Int) (w : World) (hN : L.length ≤ 9223372036854775807) (hL : FrsAt w a L) (h : heldE L k = 0) (h2 : 0 ≤ o ∧ o ≤ 9) (h3 : ¬ (0 ≤ m ∧ m ≤ 7)) :
    Calls Try.prog 9 #[.slice a L.length c, .int .i64 k, .int .i64 o, .int .i64 m] w fun e w' => e = .returned (.tuple #[.slice none 0 0, .int .i64 (attE L k o m)]) ∧ Below w.heap.size w w' := by
  rw [att_range h (fun hh => h3 hh.2)]
  have D : Hid (∀ kb W, FrsAt W a L → W.cell? ⟨kb, 0, none⟩ = some (.int .i64 k) → _) := fun kb W h1 h2 => rframed_one a c kb L k W hN h1 h2
  have HL : Hid (FrsAt w a L) := hL
  rw [h] at D
  obtain ⟨R, q, rfl, hq, hg⟩ := held_zero h
  have hfew := R.few
  have hq2 : (q : Int) < (L.length : Int) := by omega
  have hmy := R.may hq
  obtain ⟨b, ao, ea, _, _, c2, _, _⟩ := hL q hq
  subst ea
  have d1 := rinF_any o 0 9
  rw [decide_eq_true h2] at d1
  have DO : Hid _ := d1
  have d2 := rinF_any m 0 7
  rw [decide_eq_false h3] at d2
  have DM : Hid _ := d2
  clear d1 d2 h2 h3
  clear hL h R hg
  generalize (fr L q).m = pm at *
  obtain ⟨n, hn⟩ : ∃ n, L.length = n := ⟨_, rfl⟩
  rw [hn] at hN D hfew hq hq2  ⊢
  clear hn
  go_enter Try.func9, Try.ntmps9
  go_wp2_with fail
  refine Calls.mono (D.out _ _ (HL.out.below (one_belowS _ _)) (by go_simp)) ?_
  rintro e w1 ⟨rfl, hb1⟩
  have HB1 : Hid (Below w.heap.size w w1) := (one_belowS w _).trans (hb1.mono (by simp))
  clear hb1
  go_wp2_with fail
  refine Calls.mono (DO.out _) ?_
  rintro e w2 ⟨rfl, hw2⟩
  have hw3 := hw2.symm
  clear hw2
  subst hw3
  go_wp2_with fail
  refine Calls.mono (DM.out _) ?_
  rintro e w2 ⟨rfl, hw2⟩
  have hw3 := hw2.symm
  clear hw2
  subst hw3
  go_wp2_with fail
  exact bodyPost_ret (v := .tuple #[.slice none 0 0, .int .i64 2]) (by simp [results, Try.results9, go_sem]) rfl ⟨rfl, HB1.out⟩

set_option maxRecDepth 100000 in
set_option maxHeartbeats 2000000 in
theorem rattach_secret (a : Option Addr) (c : Nat) (L : List Fr) (k o m : Int) (w : World) (hN : L.length ≤ 9223372036854775807) (hL : FrsAt w a L) (h : heldE L k = 0) (h2 : (0 ≤ o ∧ o ≤ 9) ∧ (0 ≤ m ∧ m ≤ 7)) (h3 : bits .and .i64 (fr L k.toNat).m 4 = 0) :
    Calls Try.prog 9 #[.slice a L.length c, .int .i64 k, .int .i64 o, .int .i64 m] w fun e w' => e = .returned (.tuple #[.slice none 0 0, .int .i64 (attE L k o m)]) ∧ Below w.heap.size w w' := by
  rw [att_secret h h2 h3]
  have D : Hid (∀ kb W, FrsAt W a L → W.cell? ⟨kb, 0, none⟩ = some (.int .i64 k) → _) := fun kb W h1 h2 => rframed_one a c kb L k W hN h1 h2
  have HL : Hid (FrsAt w a L) := hL
  rw [h] at D
  obtain ⟨R, q, rfl, hq, hg⟩ := held_zero h
  have hfew := R.few
  have hq2 : (q : Int) < (L.length : Int) := by omega
  have hmy := R.may hq
  obtain ⟨b, ao, ea, _, _, c2, _, _⟩ := hL q hq
  subst ea
  have d1 := rinF_any o 0 9
  rw [decide_eq_true h2.1] at d1
  have DO : Hid _ := d1
  have d2 := rinF_any m 0 7
  rw [decide_eq_true h2.2] at d2
  have DM : Hid _ := d2
  clear d1 d2
  rw [Int.toNat_natCast] at h3
  have h5 := (nest_four hmy.1 hmy.2).1 h3
  have h6 : decide ((fr L q).m < 4) = true := decide_eq_true h5
  clear h2 h3 hmy
  clear hL h R hg
  generalize (fr L q).m = pm at *
  obtain ⟨n, hn⟩ : ∃ n, L.length = n := ⟨_, rfl⟩
  rw [hn] at hN D hfew hq hq2  ⊢
  clear hn
  go_enter Try.func9, Try.ntmps9
  go_wp2_with fail
  refine Calls.mono (D.out _ _ (HL.out.below (one_belowS _ _)) (by go_simp)) ?_
  rintro e w1 ⟨rfl, hb1⟩
  have HB1 : Hid (Below w.heap.size w w1) := (one_belowS w _).trans (hb1.mono (by simp))
  clear hb1
  replace c2 := keepC c2 HB1.out
  go_wp2_with fail
  refine Calls.mono (DO.out _) ?_
  rintro e w2 ⟨rfl, hw2⟩
  have hw3 := hw2.symm
  clear hw2
  subst hw3
  go_wp2_with fail
  refine Calls.mono (DM.out _) ?_
  rintro e w2 ⟨rfl, hw2⟩
  have hw3 := hw2.symm
  clear hw2
  subst hw3
  go_wp2_with fail
  exact bodyPost_ret (v := .tuple #[.slice none 0 0, .int .i64 7]) (by simp [results, Try.results9, go_sem]) rfl ⟨rfl, HB1.out⟩

set_option maxRecDepth 100000 in
set_option maxHeartbeats 2000000 in
theorem rattach_many (a : Option Addr) (c : Nat) (L : List Fr) (k o m : Int) (w : World) (hN : L.length ≤ 9223372036854775807) (hL : FrsAt w a L) (h : heldE L k = 0) (h2 : (0 ≤ o ∧ o ≤ 9) ∧ (0 ≤ m ∧ m ≤ 7)) (h3 : bits .and .i64 (fr L k.toNat).m 4 ≠ 0) (h4 : L.length = 8) :
    Calls Try.prog 9 #[.slice a L.length c, .int .i64 k, .int .i64 o, .int .i64 m] w fun e w' => e = .returned (.tuple #[.slice none 0 0, .int .i64 (attE L k o m)]) ∧ Below w.heap.size w w' := by
  rw [att_many h h2 h3 h4]
  have D : Hid (∀ kb W, FrsAt W a L → W.cell? ⟨kb, 0, none⟩ = some (.int .i64 k) → _) := fun kb W h1 h2 => rframed_one a c kb L k W hN h1 h2
  have HL : Hid (FrsAt w a L) := hL
  rw [h] at D
  obtain ⟨R, q, rfl, hq, hg⟩ := held_zero h
  have hfew := R.few
  have hq2 : (q : Int) < (L.length : Int) := by omega
  have hmy := R.may hq
  obtain ⟨b, ao, ea, _, _, c2, _, _⟩ := hL q hq
  subst ea
  have d1 := rinF_any o 0 9
  rw [decide_eq_true h2.1] at d1
  have DO : Hid _ := d1
  have d2 := rinF_any m 0 7
  rw [decide_eq_true h2.2] at d2
  have DM : Hid _ := d2
  clear d1 d2
  rw [Int.toNat_natCast] at h3
  have h5 : ¬ (fr L q).m < 4 := fun hh => h3 ((nest_four hmy.1 hmy.2).2 hh)
  have h6 : decide ((fr L q).m < 4) = false := decide_eq_false h5
  clear h2 h3 hmy
  rw [h4] at hN D hfew hq hq2 ⊢
  clear hL h R hg
  generalize (fr L q).m = pm at *
  go_enter Try.func9, Try.ntmps9
  go_wp2_with fail
  refine Calls.mono (D.out _ _ (HL.out.below (one_belowS _ _)) (by go_simp)) ?_
  rintro e w1 ⟨rfl, hb1⟩
  have HB1 : Hid (Below w.heap.size w w1) := (one_belowS w _).trans (hb1.mono (by simp))
  clear hb1
  replace c2 := keepC c2 HB1.out
  go_wp2_with fail
  refine Calls.mono (DO.out _) ?_
  rintro e w2 ⟨rfl, hw2⟩
  have hw3 := hw2.symm
  clear hw2
  subst hw3
  go_wp2_with fail
  refine Calls.mono (DM.out _) ?_
  rintro e w2 ⟨rfl, hw2⟩
  have hw3 := hw2.symm
  clear hw2
  subst hw3
  go_wp2_with fail
  exact bodyPost_ret (v := .tuple #[.slice none 0 0, .int .i64 1]) (by simp [results, Try.results9, go_sem]) rfl ⟨rfl, HB1.out⟩

/-- The bits that both have, of the first i. -/
def sbF (m pm : Int) : Nat → Int
  | 0 => 0
  | 1 => bitF m pm 1
  | 2 => bitF m pm 1 + bitF m pm 2
  | _ => bitF m pm 1 + bitF m pm 2 + bitF m pm 4
theorem sb0 (m pm : Int) : sbF m pm (0 + 1) = sbF m pm 0 + bitF m pm 1 := by show bitF m pm 1 = 0 + bitF m pm 1; omega
theorem sb1 (m pm : Int) : sbF m pm (1 + 1) = sbF m pm 1 + bitF m pm 2 := rfl
theorem sb2 (m pm : Int) : sbF m pm (2 + 1) = sbF m pm 2 + bitF m pm 4 := rfl
theorem bit_yes {m pm c : Int} (h1 : 0 < bits .and .i64 m c) (h2 : 0 < bits .and .i64 pm c) : bitF m pm c = c := if_pos ⟨h1, h2⟩
theorem bit_no {m pm c : Int} (h : ¬ (0 < bits .and .i64 m c ∧ 0 < bits .and .i64 pm c)) : bitF m pm c = 0 := if_neg h
theorem own_e1 (V : World) : (V.alloc (.cells #[] 35)).ownsRow V.heap.size 35 5 (.slice (some ⟨V.heap.size, 0, none⟩) 0 0) 0 [] := ⟨by simp, Or.inr ⟨V.heap.size, 0, #[], rfl, Nat.le_refl _, heap_alloc_new V _, by omega, by unfold maxLen; omega, by simp, by simp⟩⟩
theorem own_e3 (V : World) (o : Obj) : ((V.alloc o).alloc (.cells #[] 35)).ownsRow V.heap.size 35 5 (.slice (some ⟨V.heap.size + 1, 0, none⟩) 0 0) 0 [] := by
  have h := own_e1 (V.alloc o)
  simp only [World.size_alloc] at h
  exact ownsRow_baseL h (by omega)
theorem row5 {w : World} {blk t : Nat} {a0 a1 a2 a3 a4 : Value} (h : w.heap[blk]? = some (.cells #[a0, a1, a2, a3, a4] t (0, 0))) : w.cell? ⟨blk, 0, none⟩ = some a0 ∧ w.cell? ⟨blk, 1, none⟩ = some a1 ∧ w.cell? ⟨blk, 2, none⟩ = some a2 ∧ w.cell? ⟨blk, 3, none⟩ = some a3 ∧ w.cell? ⟨blk, 4, none⟩ = some a4 := by
  refine ⟨?_, ?_, ?_, ?_, ?_⟩ <;> simp [World.cell?, h]
/-- append onto a row of the call's own, in a region that draws. -/
theorem step_append_ownF {P : Program} {ops : Array Oper} {o : Oper} {a : Act} {w : World} {K : Act → World → Prop} {Q : Exit → Act → World → Prop} {E : Prop}
    (hg : o.guard = none) (s x : Operand) (t : TypeId) (hop : o.op = Op.call { callee := Callee.builtin Builtin.append, args := #[s, x], argTypes := #[t, t] })
    (base : Nat) (e : TypeId) (i : TypeInfo) (z : Value) (size bytes : Nat) (h1 : P.underlying t = some (.slice e)) (h2 : P.info? e = some i) (h3 : i.zero = some z) (h4 : i.size = size) (h5 : i.bytes = bytes) (h6 : z.cells.size = size) (h7 : 0 < size)
    (v : Value) (n : Nat) (xs : List Value) (hs : a.eval s = v) (hown : w.ownsRow base e size v n xs)
    (ad : Addr) (m c : Nat) (news : List Value) (hx : a.eval x = .slice (some ad) m c) (hn : news.length = m * size) (hc : ∀ j u, news[j]? = some u → w.cell? (ad.add j) = some u) (h1c : ∀ u ∈ news, u.oneCell' = true)
    (b1 : n + m ≤ maxLen) (b2 : (n + m) * bytes ≤ 140737488355328) (hbase : base ≤ w.heap.size)
    (hK : ∀ v' w', w'.ownsRow base e size v' (n + m) (xs ++ news) → w.grownBy w' v.ownBlock → K (a.put o.dst v') w') :
    if Region.wanted o (yielded ops a.tmps) = true then Oper.wp P o a w K Q else E := by
  have hw : Region.wanted o (yielded ops a.tmps) = true := by simp [Region.wanted, hg]
  rw [if_pos hw]
  exact wp_append_own w s x t hop base e i z size bytes h1 h2 h3 h4 h5 h6 h7 v n xs hs hown ad m c news hx hn hc h1c b1 b2 hbase (fun v' w' r1 r2 _ => hK v' w' r1 r2)

set_option maxRecDepth 100000 in
set_option maxHeartbeats 2000000 in
theorem rattach_ok (a : Option Addr) (c : Nat) (L : List Fr) (k o m : Int) (w : World) (hN : L.length ≤ 9223372036854775807) (hL : FrsAt w a L) (hE : attE L k o m = 0) :
    Calls Try.prog 9 #[.slice a L.length c, .int .i64 k, .int .i64 o, .int .i64 m] w fun e w' => ∃ va vc, e = .returned (.tuple #[.slice va (L.length + 1) vc, .int .i64 0]) ∧ Below w.heap.size w w' ∧ FrsAt w' va (L ++ [attF L k o m]) := by
  obtain ⟨h, ho, hm, h3, h4⟩ := att_zero hE
  have h2 := And.intro ho hm
  clear hE ho hm
  have D : Hid (∀ kb W, FrsAt W a L → W.cell? ⟨kb, 0, none⟩ = some (.int .i64 k) → _) := fun kb W h1 h2 => rframed_one a c kb L k W hN h1 h2
  have HL : Hid (FrsAt w a L) := hL
  rw [h] at D
  obtain ⟨R, q, rfl, hq, hg⟩ := held_zero h
  have hfew := R.few
  have hq2 : (q : Int) < (L.length : Int) := by omega
  have hmy := R.may hq
  obtain ⟨b, ao, ea, _, _, c2, _, _⟩ := hL q hq
  subst ea
  have d1 := rinF_any o 0 9
  rw [decide_eq_true h2.1] at d1
  have DO : Hid _ := d1
  have d2 := rinF_any m 0 7
  rw [decide_eq_true h2.2] at d2
  have DM : Hid _ := d2
  clear d1 d2
  rw [Int.toNat_natCast] at h3
  have h5 : ¬ (fr L q).m < 4 := fun hh => h3 ((nest_four hmy.1 hmy.2).2 hh)
  have h6 : decide ((fr L q).m < 4) = false := decide_eq_false h5
  have SUM : Hid _ := bits_sum h2.2.1 h2.2.2 hmy.1 hmy.2
  obtain ⟨i0, hi0, hz0, hz1, hz2⟩ := info_parts infoFrame
  have SRC : Hid (∀ W, FrsAt W (some ⟨b, ao, none⟩) L → ∀ j v, (fcells L)[j]? = some v → W.cell? ((⟨b, ao, none⟩ : Addr).add j) = some v) := fun W hW => hW.src
  have ONE : Hid _ := fcells_one L
  have LEN : Hid ((fcells L).length = L.length * 5) := fcells_len L
  have FIN : Hid (∀ v W B, W.ownsRow B 35 5 v (L.length + 1) (fcells L ++ cells5 ⟨(q : Int), o, bits .and .i64 m (fr L q).m, 0, false⟩) → ∃ va vc, v = .slice va (L.length + 1) vc ∧ FrsAt W va (L ++ [attF L q o m])) := fun v W B hW => by
    have e : fcells (L ++ [attF L q o m]) = fcells L ++ cells5 ⟨(q : Int), o, bits .and .i64 m (fr L q).m, 0, false⟩ := fcells_snoc L _
    rw [← e] at hW
    have hl : (L ++ [attF L q o m]).length = L.length + 1 := by simp
    rw [← hl] at hW ⊢
    exact frs_own hW
  clear h2 h3 hmy hL h R hg
  generalize fcells L = cs at *
  generalize L ++ [attF L q o m] = A at *
  obtain ⟨pm, hpm⟩ : ∃ z, (fr L q).m = z := ⟨_, rfl⟩
  rw [hpm] at c2 h5 h6 SUM FIN
  clear hpm
  obtain ⟨mm, hmm⟩ : ∃ z, bits .and .i64 m pm = z := ⟨_, rfl⟩
  rw [hmm] at SUM FIN
  clear hmm
  obtain ⟨n, hn⟩ : ∃ n, L.length = n := ⟨_, rfl⟩
  have HN : Hid (L.length = n) := hn
  rw [hn] at hN D hfew hq hq2 h4 LEN FIN ⊢
  clear hn
  have h8 : ¬ (n : Int) = 8 := by omega
  have h9 : decide ((n : Int) = 8) = false := decide_eq_false h8
  have h10 : ((n : Int) == 8) = false := beq_eq_false_iff_ne.2 h8
  go_enter Try.func9, Try.ntmps9
  go_wp2_with fail
  refine Calls.mono (D.out _ _ (HL.out.below (one_belowS _ _)) (by go_simp)) ?_
  rintro e w1 ⟨rfl, hb1⟩
  have HB1 : Hid (Below w.heap.size w w1) := (one_belowS w _).trans (hb1.mono (by simp))
  clear hb1
  replace c2 := keepC c2 HB1.out
  have HL1 : Hid (FrsAt w1 (some ⟨b, ao, none⟩) L) := HL.out.below HB1.out
  go_wp2_with fail
  refine Calls.mono (DO.out _) ?_
  rintro e w2 ⟨rfl, hw2⟩
  have hw3 := hw2.symm
  clear hw2
  subst hw3
  go_wp2_with fail
  refine Calls.mono (DM.out _) ?_
  rintro e w2 ⟨rfl, hw2⟩
  have hw3 := hw2.symm
  clear hw2
  subst hw3
  have qb := World.block_lt_of_cell? _ _ c2
  go_wp2_with fail
  go_loopg [49] 3 (fun g s49 wr => ∃ (i : Nat) (z : Int), i ≤ 3 ∧ 3 - i ≤ g ∧ s49 = .int .i64 i ∧ 0 ≤ z ∧ z ≤ 4 * i ∧ Hid (z = sbF m pm i) ∧ Hid (Below w1.heap.size w1 wr) ∧ wr.cell? ⟨w1.heap.size, 0, none⟩ = some (.int .i64 (q : Int)) ∧ wr.cell? ⟨w1.heap.size, 1, none⟩ = some (.int .i64 o) ∧ wr.cell? ⟨w1.heap.size, 2, none⟩ = some (.int .i64 z) ∧ wr.cell? ⟨w1.heap.size, 3, none⟩ = some (.int .i64 0) ∧ wr.cell? ⟨w1.heap.size, 4, none⟩ = some (.bool false) ∧ wr.frozen? ⟨w1.heap.size, 2, none⟩ = false ∧ wr.cell? ⟨w1.heap.size + 1, 0, none⟩ = some (.int .i64 1) ∧ wr.cell? ⟨w1.heap.size + 1, 1, none⟩ = some (.int .i64 2) ∧ wr.cell? ⟨w1.heap.size + 1, 2, none⟩ = some (.int .i64 4) ∧ w1.heap.size + 1 < wr.heap.size)
  case atStart => exact ⟨0, 0, by omega, by omega, rfl, by omega, by omega, (show Hid _ from rfl), two_belowS _ _ _, by go_simp, by go_simp, by go_simp, by go_simp, by go_simp, by go_simp, by go_simp, by go_simp, by go_simp, by simp⟩
  case round =>
    obtain ⟨i, z, hi, hgi, rfl, hz7, hz8, HZ, HBr, l0, l1, l2, l3, l4, lf, s0, s1, s2, hsz⟩ := hrel
    have c2' := keepC c2 HBr.out
    by_cases hlt : i < 3
    · have hi3 : i = 0 ∨ i = 1 ∨ i = 2 := by omega
      rcases hi3 with rfl | rfl | rfl
      · have hs1 : (0 : Int) < 3 := by omega
        by_cases p1 : 0 < bits .and .i64 m 1
        · have d1 : decide (0 < bits .and .i64 m 1) = true := decide_eq_true p1
          by_cases p2 : 0 < bits .and .i64 pm 1
          · have d2 : decide (0 < bits .and .i64 pm 1) = true := decide_eq_true p2
            have HM : Hid (z + 1 = sbF m pm (0 + 1)) := (by rw [sb0, bit_yes p1 p2, ← HZ.out] : z + 1 = sbF m pm (0 + 1))
            clear HZ
            go_wp2_with fail
            go_roundg (3 - (0 + 1))
            case measure => omega
            case rel => exact ⟨0 + 1, z + 1, by omega, by omega, rfl, by omega, by omega, HM, HBr.out.setCell (Nat.le_refl _) _, by go_simp, by go_simp, by go_simp, by go_simp, by go_simp, by go_simp, by go_simp, by go_simp, by go_simp, by simp [World.setCell]; omega⟩
          · have d2 : decide (0 < bits .and .i64 pm 1) = false := decide_eq_false p2
            have HM : Hid (z = sbF m pm (0 + 1)) := (by rw [sb0, bit_no (fun h => p2 h.2), ← HZ.out]; omega : z = sbF m pm (0 + 1))
            clear HZ
            go_wp2_with fail
            go_roundg (3 - (0 + 1))
            case measure => omega
            case rel => exact ⟨0 + 1, z, by omega, by omega, rfl, by omega, by omega, HM, HBr, l0, l1, l2, l3, l4, lf, s0, s1, s2, hsz⟩
        · have d1 : decide (0 < bits .and .i64 m 1) = false := decide_eq_false p1
          have HM : Hid (z = sbF m pm (0 + 1)) := (by rw [sb0, bit_no (fun h => p1 h.1), ← HZ.out]; omega : z = sbF m pm (0 + 1))
          clear HZ
          go_wp2_with fail
          go_roundg (3 - (0 + 1))
          case measure => omega
          case rel => exact ⟨0 + 1, z, by omega, by omega, rfl, by omega, by omega, HM, HBr, l0, l1, l2, l3, l4, lf, s0, s1, s2, hsz⟩
      · have hs1 : (1 : Int) < 3 := by omega
        by_cases p1 : 0 < bits .and .i64 m 2
        · have d1 : decide (0 < bits .and .i64 m 2) = true := decide_eq_true p1
          by_cases p2 : 0 < bits .and .i64 pm 2
          · have d2 : decide (0 < bits .and .i64 pm 2) = true := decide_eq_true p2
            have HM : Hid (z + 2 = sbF m pm (1 + 1)) := (by rw [sb1, bit_yes p1 p2, ← HZ.out] : z + 2 = sbF m pm (1 + 1))
            clear HZ
            go_wp2_with fail
            go_roundg (3 - (1 + 1))
            case measure => omega
            case rel => exact ⟨1 + 1, z + 2, by omega, by omega, rfl, by omega, by omega, HM, HBr.out.setCell (Nat.le_refl _) _, by go_simp, by go_simp, by go_simp, by go_simp, by go_simp, by go_simp, by go_simp, by go_simp, by go_simp, by simp [World.setCell]; omega⟩
          · have d2 : decide (0 < bits .and .i64 pm 2) = false := decide_eq_false p2
            have HM : Hid (z = sbF m pm (1 + 1)) := (by rw [sb1, bit_no (fun h => p2 h.2), ← HZ.out]; omega : z = sbF m pm (1 + 1))
            clear HZ
            go_wp2_with fail
            go_roundg (3 - (1 + 1))
            case measure => omega
            case rel => exact ⟨1 + 1, z, by omega, by omega, rfl, by omega, by omega, HM, HBr, l0, l1, l2, l3, l4, lf, s0, s1, s2, hsz⟩
        · have d1 : decide (0 < bits .and .i64 m 2) = false := decide_eq_false p1
          have HM : Hid (z = sbF m pm (1 + 1)) := (by rw [sb1, bit_no (fun h => p1 h.1), ← HZ.out]; omega : z = sbF m pm (1 + 1))
          clear HZ
          go_wp2_with fail
          go_roundg (3 - (1 + 1))
          case measure => omega
          case rel => exact ⟨1 + 1, z, by omega, by omega, rfl, by omega, by omega, HM, HBr, l0, l1, l2, l3, l4, lf, s0, s1, s2, hsz⟩
      · have hs1 : (2 : Int) < 3 := by omega
        by_cases p1 : 0 < bits .and .i64 m 4
        · have d1 : decide (0 < bits .and .i64 m 4) = true := decide_eq_true p1
          by_cases p2 : 0 < bits .and .i64 pm 4
          · have d2 : decide (0 < bits .and .i64 pm 4) = true := decide_eq_true p2
            have HM : Hid (z + 4 = sbF m pm (2 + 1)) := (by rw [sb2, bit_yes p1 p2, ← HZ.out] : z + 4 = sbF m pm (2 + 1))
            clear HZ
            go_wp2_with fail
            go_roundg (3 - (2 + 1))
            case measure => omega
            case rel => exact ⟨2 + 1, z + 4, by omega, by omega, rfl, by omega, by omega, HM, HBr.out.setCell (Nat.le_refl _) _, by go_simp, by go_simp, by go_simp, by go_simp, by go_simp, by go_simp, by go_simp, by go_simp, by go_simp, by simp [World.setCell]; omega⟩
          · have d2 : decide (0 < bits .and .i64 pm 4) = false := decide_eq_false p2
            have HM : Hid (z = sbF m pm (2 + 1)) := (by rw [sb2, bit_no (fun h => p2 h.2), ← HZ.out]; omega : z = sbF m pm (2 + 1))
            clear HZ
            go_wp2_with fail
            go_roundg (3 - (2 + 1))
            case measure => omega
            case rel => exact ⟨2 + 1, z, by omega, by omega, rfl, by omega, by omega, HM, HBr, l0, l1, l2, l3, l4, lf, s0, s1, s2, hsz⟩
        · have d1 : decide (0 < bits .and .i64 m 4) = false := decide_eq_false p1
          have HM : Hid (z = sbF m pm (2 + 1)) := (by rw [sb2, bit_no (fun h => p1 h.1), ← HZ.out]; omega : z = sbF m pm (2 + 1))
          clear HZ
          go_wp2_with fail
          go_roundg (3 - (2 + 1))
          case measure => omega
          case rel => exact ⟨2 + 1, z, by omega, by omega, rfl, by omega, by omega, HM, HBr, l0, l1, l2, l3, l4, lf, s0, s1, s2, hsz⟩
    · have hie : i = 3 := by omega
      subst hie
      have hzm : z = mm := HZ.out.trans SUM.out
      subst hzm
      have HLr : Hid (FrsAt wr (some ⟨b, ao, none⟩) L) := HL1.out.below HBr.out
      have hb1 : 0 + n ≤ maxLen := by unfold maxLen; omega
      have hb2 : (0 + n) * 40 ≤ 140737488355328 := by omega
      have hb3 : 0 + n + 1 ≤ maxLen := by unfold maxLen; omega
      have hb4 : (0 + n + 1) * 40 ≤ 140737488355328 := by omega
      have e0 := World.new_ne wr _ l0
      have e1 := World.new_ne wr _ l1
      have e2 := World.new_ne wr _ l2
      have e3 := World.new_ne wr _ l3
      have e4 := World.new_ne wr _ l4
      clear HZ
      go_wp2_with fail
      go_region_held3 (fun w'' => w''.cell? ⟨w1.heap.size, 0, none⟩ = some (.int .i64 (q : Int)) ∧ w''.cell? ⟨w1.heap.size, 1, none⟩ = some (.int .i64 o) ∧ w''.cell? ⟨w1.heap.size, 2, none⟩ = some (.int .i64 z) ∧ w''.cell? ⟨w1.heap.size, 3, none⟩ = some (.int .i64 0) ∧ w''.cell? ⟨w1.heap.size, 4, none⟩ = some (.bool false)) (go_keep) (first
        | (refine step_append_ownF rfl (.tmp 73) (.tmp 74) 22 rfl wr.heap.size 35 i0 (.agg #[.int .i64 0, .int .i64 0, .int .i64 0, .int .i64 0, .bool false]) 5 40 Try.underlying22 hi0 hz0 hz1 hz2 rfl (by decide) (.slice (some ⟨wr.heap.size + 1, 0, none⟩) 0 0) 0 [] rfl (own_e3 wr _) ⟨b, ao, none⟩ n c cs rfl LEN.out (SRC.out _ (HLr.out.below (two_belowS wr _ _).drew)) ONE.out hb1 hb2 ((two_belowS wr _ _).drew).size ?_; intro v7 w7 own7 grow7; have HB7 : Hid (Below wr.heap.size wr w7) := ((two_belowS wr _ _).drew).grown grow7 ((two_belowS wr _ _).drew).size (fun kk hk => by cases hk; first | exact Nat.le_refl _ | exact Nat.le_succ _); have OW7 : Hid (w7.ownsRow wr.heap.size 35 5 v7 (0 + n) ([] ++ cs)) := own7; obtain ⟨m0, m1, m2, m3, m4⟩ := keep5 HB7.out l0 l1 l2 l3 l4; have RW7 : Hid (w7.heap[wr.heap.size]? = some (.cells #[.int .i64 (q : Int), .int .i64 o, .int .i64 z, .int .i64 0, .bool false] 35 (0, 0))) := (grow7.block wr.heap.size (by simp; omega) (by intro e; have e2 : wr.heap.size = wr.heap.size + 1 := Option.some.inj e; omega)).trans ((Below.heap_alloc _ _ _ (by simp)).trans (heap_alloc_new wr _)); clear own7 grow7)
        | (refine step_append_ownF rfl (.tmp 73) (.tmp 74) 22 rfl wr.heap.size 35 i0 (.agg #[.int .i64 0, .int .i64 0, .int .i64 0, .int .i64 0, .bool false]) 5 40 Try.underlying22 hi0 hz0 hz1 hz2 rfl (by decide) (.slice (some ⟨wr.heap.size, 0, none⟩) 0 0) 0 [] rfl ((own_e1 wr).alloc _) ⟨b, ao, none⟩ n c cs rfl LEN.out (SRC.out _ (HLr.out.below (two_belowS wr _ _).drew)) ONE.out hb1 hb2 ((two_belowS wr _ _).drew).size ?_; intro v7 w7 own7 grow7; have HB7 : Hid (Below wr.heap.size wr w7) := ((two_belowS wr _ _).drew).grown grow7 ((two_belowS wr _ _).drew).size (fun kk hk => by cases hk; first | exact Nat.le_refl _ | exact Nat.le_succ _); have OW7 : Hid (w7.ownsRow wr.heap.size 35 5 v7 (0 + n) ([] ++ cs)) := own7; obtain ⟨m0, m1, m2, m3, m4⟩ := keep5 HB7.out l0 l1 l2 l3 l4; have RW7 : Hid (w7.heap[wr.heap.size + 1]? = some (.cells #[.int .i64 (q : Int), .int .i64 o, .int .i64 z, .int .i64 0, .bool false] 35 (0, 0))) := (grow7.block (wr.heap.size + 1) (by simp) (by intro e; have e2 : wr.heap.size + 1 = wr.heap.size := Option.some.inj e; omega)).trans (heap_alloc2_new wr _ _); clear own7 grow7)
        | (refine step_append_ownF rfl (.tmp 73) (.tmp 74) 22 rfl wr.heap.size 35 i0 (.agg #[.int .i64 0, .int .i64 0, .int .i64 0, .int .i64 0, .bool false]) 5 40 Try.underlying22 hi0 hz0 hz1 hz2 rfl (by decide) (.slice (some ⟨wr.heap.size, 0, none⟩) 0 0) 0 [] rfl (own_e1 wr) ⟨b, ao, none⟩ n c cs rfl LEN.out (SRC.out _ (HLr.out.below (one_belowS wr _).drew)) ONE.out hb1 hb2 ((one_belowS wr _).drew).size ?_; intro v7 w7 own7 grow7; have HB7 : Hid (Below wr.heap.size wr w7) := ((one_belowS wr _).drew).grown grow7 ((one_belowS wr _).drew).size (fun kk hk => by cases hk; first | exact Nat.le_refl _ | exact Nat.le_succ _); have OW7 : Hid (w7.ownsRow wr.heap.size 35 5 v7 (0 + n) ([] ++ cs)) := own7; obtain ⟨m0, m1, m2, m3, m4⟩ := keep5 HB7.out l0 l1 l2 l3 l4; have RW7 : Hid True := trivial; clear own7 grow7)
        | (refine step_append_ownF rfl (.tmp 75) (.tmp 77) 22 rfl wr.heap.size 35 i0 (.agg #[.int .i64 0, .int .i64 0, .int .i64 0, .int .i64 0, .bool false]) 5 40 Try.underlying22 hi0 hz0 hz1 hz2 rfl (by decide) v7 (0 + n) ([] ++ cs) rfl (OW7.out) ⟨wr.heap.size, 0, none⟩ 1 1 (cells5 ⟨(q : Int), o, z, 0, false⟩) rfl rfl (news5 (row5 RW7.out).1 (row5 RW7.out).2.1 (row5 RW7.out).2.2.1 (row5 RW7.out).2.2.2.1 (row5 RW7.out).2.2.2.2) (cells5_one _) hb3 hb4 (HB7.out).size ?_; intro v8 w8 own8 grow8; have HB8 : Hid (Below wr.heap.size wr w8) := (HB7.out).grown grow8 (HB7.out).size (fun kk hk => (OW7.out.lt kk hk).1); have OW8 : Hid (w8.ownsRow wr.heap.size 35 5 v8 (0 + n + 1) ([] ++ cs ++ cells5 ⟨(q : Int), o, z, 0, false⟩)) := own8; obtain ⟨k0, k1, k2, k3, k4⟩ := keep5 HB8.out l0 l1 l2 l3 l4; clear own8 grow8)
        | (refine step_append_ownF rfl (.tmp 75) (.tmp 77) 22 rfl wr.heap.size 35 i0 (.agg #[.int .i64 0, .int .i64 0, .int .i64 0, .int .i64 0, .bool false]) 5 40 Try.underlying22 hi0 hz0 hz1 hz2 rfl (by decide) v7 (0 + n) ([] ++ cs) rfl (OW7.out) ⟨wr.heap.size + 1, 0, none⟩ 1 1 (cells5 ⟨(q : Int), o, z, 0, false⟩) rfl rfl (news5 (row5 RW7.out).1 (row5 RW7.out).2.1 (row5 RW7.out).2.2.1 (row5 RW7.out).2.2.2.1 (row5 RW7.out).2.2.2.2) (cells5_one _) hb3 hb4 (HB7.out).size ?_; intro v8 w8 own8 grow8; have HB8 : Hid (Below wr.heap.size wr w8) := (HB7.out).grown grow8 (HB7.out).size (fun kk hk => (OW7.out.lt kk hk).1); have OW8 : Hid (w8.ownsRow wr.heap.size 35 5 v8 (0 + n + 1) ([] ++ cs ++ cells5 ⟨(q : Int), o, z, 0, false⟩)) := own8; obtain ⟨k0, k1, k2, k3, k4⟩ := keep5 HB8.out l0 l1 l2 l3 l4; clear own8 grow8)
        | (refine step_append_ownF rfl (.tmp 75) (.tmp 77) 22 rfl wr.heap.size 35 i0 (.agg #[.int .i64 0, .int .i64 0, .int .i64 0, .int .i64 0, .bool false]) 5 40 Try.underlying22 hi0 hz0 hz1 hz2 rfl (by decide) v7 (0 + n) ([] ++ cs) rfl (OW7.out.alloc _) ⟨w7.heap.size, 0, none⟩ 1 1 (cells5 ⟨(q : Int), o, z, 0, false⟩) rfl rfl (news5 (by go_simp) (by go_simp) (by go_simp) (by go_simp) (by go_simp)) (cells5_one _) hb3 hb4 (HB7.out.alloc HB7.out.size _).size ?_; intro v8 w8 own8 grow8; have HB8 : Hid (Below wr.heap.size wr w8) := (HB7.out.alloc HB7.out.size _).grown grow8 (HB7.out.alloc HB7.out.size _).size (fun kk hk => (OW7.out.lt kk hk).1); have OW8 : Hid (w8.ownsRow wr.heap.size 35 5 v8 (0 + n + 1) ([] ++ cs ++ cells5 ⟨(q : Int), o, z, 0, false⟩)) := own8; obtain ⟨k0, k1, k2, k3, k4⟩ := keep5 HB8.out l0 l1 l2 l3 l4; clear own8 grow8)
        | fail)
      all_goals
        have o8 := OW8.out
        rw [List.nil_append, Nat.zero_add] at o8
        obtain ⟨va, vc, hv, hF⟩ := FIN.out _ _ _ o8
        subst hv
        have HF : Hid _ := hF
        clear o8 hF OW8 OW7
        go_wp2_with fail
        exact bodyPost_ret (v := .tuple #[.slice va (n + 1) vc, .int .i64 0]) (by simp [results, Try.results9, go_sem]) rfl (by first | exact ⟨va, vc, rfl, HB1.out.trans ((HBr.out.trans (HB8.out.mono HBr.out.size)).mono HB1.out.size), HF.out⟩ | exact ⟨va, ⟨vc, rfl⟩, HB1.out.trans ((HBr.out.trans (HB8.out.mono HBr.out.size)).mono HB1.out.size), HF.out⟩)
end Go.Proofs.Ytfnfcldkadfpmaa
