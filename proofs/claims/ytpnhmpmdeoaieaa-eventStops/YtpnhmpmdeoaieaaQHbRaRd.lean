/-
  The reference's CheckHearers.
-/
import Derived.Test.YtpnhmpmdeoaieaaQHa
import Derived.Test.YtpnhmpmdeoaieaaQSk
import Derived.BigQuiet
import Derived.Test.YtpnhmpmdeoaieaaQUeZp
namespace Go.Proofs.Ytpnhmpmdeoaieaa
open Go.RowKit Go.ChangeShapes Go.WideShapes
set_option linter.unusedVariables false

theorem marks_congr {w : World} {b n : Nat} {f g : Int → Bool} (h : MarksAt w b n f) (e : ∀ k, f k = g k) : MarksAt w b n g := by
  have : f = g := funext e
  rw [← this]
  exact h

set_option maxHeartbeats 400000 in
theorem rbelow_any (x m : Int) (w : World) :
    Calls Try.prog 37 #[.int .i64 x, .int .i64 m] w fun e w' => e = .returned (.bool (decide (¬ (x < 0 ∨ m ≤ x)))) ∧ w' = w := by
  by_cases h1 : 0 ≤ x
  · have d1 : decide (0 ≤ x) = true := decide_eq_true h1
    by_cases h2 : x < m
    · have d2 : decide (x < m) = true := decide_eq_true h2
      have HR : Hid (decide (¬ (x < 0 ∨ m ≤ x)) = true) := decide_eq_true (by omega)
      clear h1 h2
      go_enter Try.func37, Try.ntmps37
      go_wp2_with fail
      go_ret
      exact ⟨by rw [HR.out]; rfl, rfl⟩
    · have d2 : decide (x < m) = false := decide_eq_false h2
      have HR : Hid (decide (¬ (x < 0 ∨ m ≤ x)) = false) := decide_eq_false (by omega)
      clear h1 h2
      go_enter Try.func37, Try.ntmps37
      go_wp2_with fail
      go_ret
      exact ⟨by rw [HR.out]; rfl, rfl⟩
  · have d1 : decide (0 ≤ x) = false := decide_eq_false h1
    have HR : Hid (decide (¬ (x < 0 ∨ m ≤ x)) = false) := decide_eq_false (by omega)
    clear h1
    go_enter Try.func37, Try.ntmps37
    go_wp2_with fail
    go_ret
    exact ⟨by rw [HR.out]; rfl, rfl⟩

set_option maxRecDepth 100000 in
set_option maxHeartbeats 2000000 in
theorem rhcheck_any (a : Option Addr) (c : Nat) (L : List Hr) (N : Int) (w : World) (hN : L.length ≤ 9223372036854775807) (hB : BigH L) (hL : HrsAt w a L) :
    Calls Try.prog 10 #[.slice a L.length c, .int .i64 N] w fun e w' => e = .returned (.int .i64 (hcheckE L N)) ∧ Below w.heap.size w w' := by
  by_cases hm : 24 < L.length
  · have e : hcheckE L N = 1 := by unfold hcheckE; rw [if_pos hm]
    rw [e]
    have hm2 : decide ((24 : Int) < (L.length : Int)) = true := decide_eq_true (by omega)
    clear hB hL e
    generalize L.length = n at *
    go_enter Try.func10, Try.ntmps10
    go_wp2_with fail
    go_ret
    exact ⟨rfl, Below.refl _ _⟩
  · have e : hcheckE L N = hErr N L 0 := by unfold hcheckE; rw [if_neg hm]
    rw [e]
    have HL : Hid (HrsAt w a L) := hL
    have HBG : Hid (BigH L) := hB
    have hm2 : decide ((24 : Int) < (L.length : Int)) = false := decide_eq_false (by omega)
    have ST : Hid (∀ i, i < L.length → hErr N L i = if (hr L i).pl < 0 ∨ N ≤ (hr L i).pl then 4 else if (hr L i).id ∈ idsF L i then 3 else hErr N L (i + 1)) := fun i hi => hErr_step hi
    have IS : Hid (∀ i, i < L.length → idsF L (i + 1) = idsF L i ++ [(hr L i).id]) := fun i hi => ids_step hi
    have EN : Hid (hErr N L L.length = 0) := hErr_end (Nat.le_refl _)
    have M0 : Hid (MarksAt (w.alloc (.map #[] 0)) w.heap.size 0 (fun x => decide (x ∈ idsF L 0))) := marks_congr (MarksAt.made w) (fun k => by simp [idsF])
    have DB : Hid (∀ x W, Calls _ _ _ _ _) := fun x W => rbelow_any x N W
    have hmm := @run_makeMap Try.prog
    clear hB hL e
    obtain ⟨E, hE⟩ : ∃ E, hErr N L 0 = E := ⟨_, rfl⟩
    have HE : Hid (hErr N L 0 = E) := hE
    rw [hE]
    clear hE
    obtain ⟨n, hn⟩ : ∃ n, L.length = n := ⟨_, rfl⟩
    have HN : Hid (L.length = n) := hn
    rw [hn] at hN hm hm2 ST IS EN ⊢
    clear hn
    go_enter Try.func10, Try.ntmps10
    go_wp2_with fail
    go_loopg [14] n (fun g s14 wr => ∃ i : Nat, i ≤ n ∧ n - i ≤ g ∧ s14 = .int .i64 i ∧ Hid (Below w.heap.size w wr) ∧ w.heap.size < wr.heap.size ∧ Hid (MarksAt wr w.heap.size i (fun x => decide (x ∈ idsF L i))) ∧ Hid (hErr N L i = E))
    case atStart => exact ⟨0, by omega, by omega, rfl, one_belowS _ _, by simp, M0, HE⟩
    case round =>
      obtain ⟨i, hi, hg, rfl, HBr, hsz, MK, HEi⟩ := hrel
      clear M0 HE
      by_cases hlt : i < n
      · have hlt2 : (i : Int) < (n : Int) := by omega
        obtain ⟨b, o, ea, c0, c1, c2, c3, c4⟩ := (HL.out.below HBr.out) i (by rw [HN.out]; exact hlt)
        subst ea
        have hwf := HBG.out i (by rw [HN.out]; exact hlt)
        have STi : Hid _ := (ST.out i hlt).symm.trans HEi.out
        have ISi : Hid _ := IS.out i hlt
        have q0 := World.block_lt_of_cell? _ _ c0
        generalize hr L i = x at *
        obtain ⟨xp, xd, xo, xs, xi⟩ := x
        dsimp only at c0 c1 c2 c3 c4 hwf STi ISi
        have HBA : Hid (∀ o1, Below w.heap.size w (wr.alloc o1)) := fun o1 => HBr.out.trans ((one_belowS wr o1).mono HBr.out.size)
        by_cases hp : xp < 0 ∨ N ≤ xp
        · have DBi := DB.out xp
          have d1 : decide (¬ (xp < 0 ∨ N ≤ xp)) = false := decide_eq_false (fun h => h hp)
          rw [d1] at DBi
          have DBx : Hid _ := DBi
          have HEE : Hid (4 = E) := by have h := STi.out; rwa [if_pos hp] at h
          clear STi hp d1 DBi
          go_wp2_with fail
          refine Calls.mono (DBx.out _) ?_
          rintro e w5 ⟨rfl, rfl⟩
          go_wp2_with fail
          go_ret
          exact ⟨by rw [HEE.out]; rfl, HBA.out _⟩
        · have DBi := DB.out xp
          have d1 : decide (¬ (xp < 0 ∨ N ≤ xp)) = true := decide_eq_true hp
          rw [d1] at DBi
          have DBx : Hid _ := DBi
          clear DBi d1
          have hlook : ∀ o1, (Instr.lookup 44 (.map (some w.heap.size)) (.int .i64 xi) false).run Try.prog (wr.alloc o1) = .ok (.bool (decide (xi ∈ idsF L i))) (wr.alloc o1) := fun o1 => (MK.out.kept ((one_belowS wr o1).block _ hsz)).look (t := 44) Try.underlying44 hwf
          by_cases hm3 : xi ∈ idsF L i
          · have HEE : Hid (3 = E) := by have h := STi.out; rwa [if_neg hp, if_pos hm3] at h
            rw [decide_eq_true hm3] at hlook
            clear STi hm3 hp
            go_wp2_with fail
            refine Calls.mono (DBx.out _) ?_
            rintro e w5 ⟨rfl, rfl⟩
            go_wp2_with fail
            go_ret
            exact ⟨by rw [HEE.out]; rfl, HBA.out _⟩
          · have HEE : Hid (hErr N L (i + 1) = E) := by have h := STi.out; rwa [if_neg hp, if_neg hm3] at h
            rw [decide_eq_false hm3] at hlook
            clear STi hm3 hp
            obtain ⟨W2, hW2⟩ : ∃ W2, wr.alloc (.cells #[.int .i64 xp, .bool xd, .bool xo, .bool xs, .int .i64 xi] 39) = W2 := ⟨_, rfl⟩
            have mk2 : MarksAt W2 w.heap.size i (fun x => decide (x ∈ idsF L i)) := by rw [← hW2]; exact MK.out.kept ((one_belowS wr _).block _ hsz)
            have hb2 : Below w.heap.size w W2 := by rw [← hW2]; exact HBA.out _
            have hs2 : wr.heap.size ≤ W2.heap.size := by rw [← hW2]; simp
            obtain ⟨w3, hput, mk3, gr3⟩ := mk2.put (t := 44) Try.underlying44 (by unfold maxLen; omega) hwf true
            rw [← hW2] at hput
            have MK3 : Hid (MarksAt w3 w.heap.size (i + 1) (fun x => decide (x ∈ idsF L (i + 1)))) := by
              refine marks_congr mk3 (fun k => ?_)
              rw [ISi.out]
              by_cases e : k = xi
              · simp [e]
              · simp [e]
            have HB3 : Hid (Below w.heap.size w w3) := hb2.grown gr3 hb2.size (fun k hk => by cases hk; exact Nat.le_refl _)
            have hs3 : w.heap.size < w3.heap.size := by have := gr3.size; omega
            clear mk2 mk3 gr3 hb2 hs2 hW2 MK
            go_wp2_with fail
            refine Calls.mono (DBx.out _) ?_
            rintro e w5 ⟨rfl, rfl⟩
            go_wp2_with fail
            go_roundg (n - (i + 1))
            case measure => omega
            case rel => exact ⟨i + 1, by omega, by omega, by go_num, HB3, hs3, MK3, HEE⟩
      · have hie : i = n := by omega
        subst hie
        have HEE : Hid ((0 : Int) = E) := EN.out.symm.trans HEi.out
        clear MK HEi
        go_wp2_with fail
        go_ret
        exact ⟨by rw [HEE.out]; rfl, HBr.out⟩
end Go.Proofs.Ytpnhmpmdeoaieaa

namespace Go.Proofs.Ytpnhmpmdeoaieaa
open Go.RowKit

theorem rin_any (x a b : Int) (w : World) :
    Calls Try.prog 71 #[.int .i64 x, .int .i64 a, .int .i64 b] w fun e w' => e = .returned (.bool (decide (a ≤ x ∧ x ≤ b))) ∧ w' = w := by
  by_cases h1 : a ≤ x
  · by_cases h2 : x ≤ b
    · rw [decide_eq_true ⟨h1, h2⟩]
      go_enter Try.func71, Try.ntmps71
      go_wp2
      go_ret
      exact ⟨rfl, rfl⟩
    · rw [decide_eq_false (fun h => h2 h.2)]
      have h3 : decide (x ≤ b) = false := decide_eq_false h2
      go_enter Try.func71, Try.ntmps71
      go_wp2
      go_ret
      exact ⟨rfl, rfl⟩
  · rw [decide_eq_false (fun h => h1 h.1)]
    have h3 : decide (a ≤ x) = false := decide_eq_false h1
    go_enter Try.func71, Try.ntmps71
    go_wp2
    go_ret
    exact ⟨rfl, rfl⟩

set_option maxHeartbeats 400000 in
theorem rRightUnder_any (x : Nd) (k : Value) (w : World) :
    Calls Try.prog 49 #[.agg #[.bool x.u, .int .i64 x.n, .int .i64 x.t, .int .i64 x.m, .int .i64 x.p, k, .int .i64 x.h, .bool x.c]] w fun e w' => e = .returned (.int .i64 (if x.h = -1 then x.p else x.h)) ∧ Below w.heap.size w w' := by
  obtain ⟨u, n, t, m, p, ks, h, c⟩ := x
  dsimp only
  by_cases e : h = -1
  · subst e
    simp only [if_true]
    go_enter Try.func49, Try.ntmps49
    go_wp2
    go_ret
    exact ⟨rfl, (Below.refl _ _).alloc (Nat.le_refl _) _⟩
  · simp only [if_neg e]
    have e2 : (h == -1) = false := beq_eq_false_iff_ne.2 e
    go_enter Try.func49, Try.ntmps49
    go_wp2
    go_ret
    exact ⟨rfl, (Below.refl _ _).alloc (Nat.le_refl _) _⟩
end Go.Proofs.Ytpnhmpmdeoaieaa

namespace Go.Proofs.Ytpnhmpmdeoaieaa
open Go.RowKit

theorem own_below {w w' : World} {B : Nat} {v : Value} {l : List Int} (h : w.ownsRow B 3 1 v l.length (l.map (Value.int .i64))) (hb : Below w.heap.size w w') : w'.ownsRow B 3 1 v l.length (l.map (Value.int .i64)) :=
  h.kept (row := none) ⟨hb.os, hb.tape, hb.output, hb.size, fun k hk _ => hb.block k hk⟩ (by
    cases hv : v.ownBlock with
    | none => exact Or.inl rfl
    | some k => exact Or.inr (fun e => by cases e))

set_option maxRecDepth 100000 in
set_option maxHeartbeats 4000000 in
theorem rLine_any (a : Option Addr) (c : Nat) (S : List Nd) (k : Int) (w : World) (hN : S.length ≤ 24) (hS : NdsAt w a S) :
    Calls Try.prog 32 #[.agg #[.slice a S.length c], .int .i64 k] w fun e w' => ∃ v, e = .returned v ∧ Below w.heap.size w w' ∧ w'.ownsRow w.heap.size 3 1 v (lineF S (S.length + 1) k).length ((lineF S (S.length + 1) k).map (Value.int .i64)) := by
  obtain ⟨i0, hi0, hz0, hz1, hz2⟩ := info_parts info3
  have HS : Hid (NdsAt w a S) := hS
  have LF : Hid (∀ f (y : Nat), y < S.length → lineF S (f + 1) (y : Int) = (y : Int) :: lineF S f (rightUnder (nd S y))) := fun f y hy => by rw [lineF, if_pos (isPl_nat.2 hy), Int.toNat_natCast]
  have LN : Hid (∀ f (x : Int), ¬ (0 ≤ x ∧ x < (S.length : Int)) → lineF S f x = []) := fun f x hx => by
    cases f with
    | zero => rfl
    | succ f =>
      rw [lineF, if_neg]
      intro h
      have h2 : 0 ≤ x ∧ x ≤ (S.length : Int) - 1 := of_decide_eq_true h
      exact hx (by omega)
  obtain ⟨L0, hL0⟩ : ∃ l, lineF S (S.length + 1) k = l := ⟨_, rfl⟩
  rw [hL0]
  have E0 : Hid (L0 = [] ++ lineF S (S.length + 1 - 0) k) := (by rw [← hL0]; rfl : L0 = [] ++ lineF S (S.length + 1 - 0) k)
  clear hS hL0
  obtain ⟨n, hn⟩ : ∃ n, S.length = n := ⟨_, rfl⟩
  have HN : Hid (S.length = n) := hn
  rw [hn] at hN E0 LF LN ⊢
  clear hn
  go_enter Try.func32, Try.ntmps32
  go_wp2_with fail
  go_loopg [1, 5] (n + 1) (fun g s1 s5 wr => ∃ (j : Nat) (x : Int) (l : List Int), j ≤ n + 1 ∧ (n + 1) - j ≤ g ∧ s1 = .int .i64 x ∧ l.length = j ∧ Hid (Below w.heap.size w wr) ∧ wr.cell? ⟨w.heap.size, 0, none⟩ = some (.slice a n c) ∧ w.heap.size < wr.heap.size ∧ Hid (wr.ownsRow (w.heap.size + 1) 3 1 s5 l.length (l.map (Value.int .i64))) ∧ Hid (L0 = l ++ lineF S (n + 1 - j) x))
  case atStart => exact ⟨0, k, [], by omega, by omega, rfl, rfl, (Below.refl _ _).alloc (Nat.le_refl _) _, by go_simp, by simp, World.ownsRow_nil _ _ _ _, E0⟩
  case round =>
    obtain ⟨j, x, l, hj, hg, rfl, hl, HB, cs, hsz, HO, HE⟩ := hrel
    obtain ⟨pa, pc, hv, _⟩ := own_slice HO.out
    subst hv
    clear E0
    obtain ⟨ln, hln⟩ : ∃ y, l.length = y := ⟨_, rfl⟩
    have HLN : Hid (l.length = ln) := hln
    rw [hln]
    have hlj : ln = j := by omega
    subst hlj
    have EXIT : Hid (lineF S (n + 1 - ln) x = [] → wr.ownsRow w.heap.size 3 1 (.slice pa ln pc) L0.length (L0.map (Value.int .i64))) := fun h => by
      have e := HE.out
      rw [h, List.append_nil] at e
      rw [e]
      have h2 := ownsRow_base HO.out (Nat.le_succ _)
      rw [hln] at h2
      rw [hln]
      exact h2
    have OWN : Hid (wr.ownsRow (w.heap.size + 1) 3 1 (.slice pa ln pc) ln (l.map (Value.int .i64))) := by have h2 := HO.out; rw [hln] at h2; exact h2
    clear hl hln HO
    by_cases hx : 0 ≤ x ∧ x < (n : Int)
    · obtain ⟨y, rfl⟩ : ∃ y : Nat, x = y := ⟨x.toNat, by omega⟩
      have hy : y < n := by omega
      obtain ⟨hx0, hx1⟩ := hx
      have b1 : decide ((0 : Int) ≤ (y : Int)) = true := decide_eq_true hx0
      have b2 : decide ((y : Int) < (n : Int)) = true := decide_eq_true hx1
      by_cases hjn : ln ≤ n
      · have b3 : decide ((ln : Int) ≤ (n : Int)) = true := decide_eq_true (by omega)
        have hjn2 : (ln : Int) ≤ (n : Int) := by omega
        have EQ : Hid (L0 = (l ++ [(y : Int)]) ++ lineF S (n + 1 - (ln + 1)) (rightUnder (nd S y))) := by
          have e := HE.out
          rw [show n + 1 - ln = (n + 1 - (ln + 1)) + 1 by omega, LF.out _ y hy] at e
          show L0 = _
          rw [e, List.append_assoc]
          rfl
        obtain ⟨r, hr⟩ : ∃ r, rightUnder (nd S y) = r := ⟨_, rfl⟩
        have d2 := fun (v : Value) W => rRightUnder_any (nd S y) v W
        rw [show (if (nd S y).h = -1 then (nd S y).p else (nd S y).h) = r from hr] at d2
        have RUy : Hid _ := d2
        rw [hr] at EQ
        clear HE EXIT d2 hr
        have OB : Hid (∀ k, (Value.slice pa ln pc).ownBlock = some k → w.heap.size + 1 ≤ k) := fun k hk => (OWN.out.lt k hk).1
        go_wp2_with (at_builtin; refine wpList_append_own _ rfl _ _ 41 rfl (w.heap.size + 1) 3 i0 (.int .i64 0) 1 8 Try.underlying41 hi0 hz0 hz1 hz2 rfl (by decide) _ _ _ rfl (OWN.out.alloc _) ⟨wr.heap.size, 0, none⟩ 1 1 [.int .i64 (y : Int)] rfl rfl ?c1 ?c2 ?c3 ?c4 ?c5 ?_)
        case c2 => first | rfl | (intro u hu; simp at hu; subst hu; rfl) | simp
        case c3 => unfold maxLen; omega
        case c4 => omega
        case c5 => first | omega | (simp; omega)
        case c1 => first | (go_simp; done) | (intro j u hj; match j, hj with | 0, hj => (cases hj; go_simp) | (j + 1), hj => simp at hj)
        intro v' w2 hown' hgrow _
        obtain ⟨g', cap', rfl⟩ : ∃ g' cap', v' = .slice (some ⟨g', 0, none⟩) (ln + 1) cap' := by
          rcases hown'.2 with ⟨_, h⟩ | ⟨g', cap', cur, h, _⟩
          · omega
          · exact ⟨g', cap', h⟩
        have hb2 : Below (w.heap.size + 1) wr w2 := ((Below.refl _ wr).alloc (by omega) _).grown hgrow (by simp; omega) (fun k hk => OB.out k hk)
        have HB2 : Hid (Below w.heap.size w w2) := HB.out.trans (hb2.mono (by omega))
        have cs2 := (hb2.cell (p := ⟨w.heap.size, 0, none⟩) (by show w.heap.size < _; omega)).trans cs
        have hsz2 := World.block_lt_of_cell? _ _ cs2
        obtain ⟨nb, no, ea, k0, k1, k2, k3, k4, ⟨ka, kc, k5, _⟩, k6, k7⟩ := (HS.out.below HB2.out) y (by rw [HN.out]; exact hy)
        subst ea
        have hnb := World.block_lt_of_cell? _ _ k0
        have HO2 : Hid (w2.ownsRow (w.heap.size + 1) 3 1 (.slice (some ⟨g', 0, none⟩) (ln + 1) cap') (l ++ [(y : Int)]).length ((l ++ [(y : Int)]).map (Value.int .i64))) := by
          have h2 := hown'
          rw [show (l ++ [(y : Int)]).length = ln + 1 by simp [HLN.out], List.map_append]
          exact h2
        have HL2 : Hid ((l ++ [(y : Int)]).length = ln + 1) := (by simp [HLN.out] : (l ++ [(y : Int)]).length = ln + 1)
        clear hown' hgrow hb2 cs OWN
        go_wp2_with fail
        refine Calls.mono (RUy.out _ _) ?_
        rintro e w3 ⟨rfl, hb3⟩
        have HB3 : Hid (Below w.heap.size w w3) := HB2.out.trans (hb3.mono HB2.out.size)
        have cs3 := (hb3.cell (p := ⟨w.heap.size, 0, none⟩) hsz2).trans cs2
        have HO3 : Hid _ := own_below HO2.out hb3
        have hs3 := hb3.size
        clear hb3 k0 k1 k2 k3 k4 k5 k6 k7 cs2
        go_wp2
        go_roundg ((n + 1) - (ln + 1))
        case measure => omega
        case rel => exact ⟨ln + 1, _, l ++ [(y : Int)], by omega, by omega, rfl, HL2.out, HB3, cs3, by omega, HO3, EQ⟩
      · have hjn2 : ¬ (ln : Int) ≤ (n : Int) := by omega
        have b3 : decide ((ln : Int) ≤ (n : Int)) = false := decide_eq_false hjn2
        have hz : n + 1 - ln = 0 := by omega
        have OW : Hid _ := EXIT.out (by rw [hz]; rfl)
        clear EXIT HE OWN
        go_wp2
        go_ret
        exact ⟨_, rfl, HB.out, OW.out⟩
    · have OW : Hid _ := EXIT.out (LN.out _ _ hx)
      clear EXIT HE OWN
      by_cases h0 : 0 ≤ x
      · have h1 : ¬ x < (n : Int) := fun h => hx ⟨h0, h⟩
        have b1 : decide ((0 : Int) ≤ x) = true := decide_eq_true h0
        have b2 : decide (x < (n : Int)) = false := decide_eq_false h1
        clear hx
        go_wp2
        go_ret
        exact ⟨_, rfl, HB.out, OW.out⟩
      · have b1 : decide ((0 : Int) ≤ x) = false := decide_eq_false h0
        clear hx
        go_wp2
        go_ret
        exact ⟨_, rfl, HB.out, OW.out⟩
end Go.Proofs.Ytpnhmpmdeoaieaa
