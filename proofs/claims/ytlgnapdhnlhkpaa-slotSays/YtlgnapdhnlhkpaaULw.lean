/-
  The reference's FlatOf: its closure, on its three ways.
-/
import Derived.Test.YtlgnapdhnlhkpaaULuLv
import Derived.Test.YtlgnapdhnlhkpaaUSmBoSpLay
import Derived.BigQuiet
namespace Go.Proofs.Ytlgnapdhnlhkpaa
open Go.RowKit
set_option linter.unusedVariables false

theorem filt_take (ks : List Int) (P : Int → Bool) (q : Nat) (hq : q < ks.length) : (ks.take (q + 1)).filter P = (ks.take q).filter P ++ (if P (ks.getD q 0) then [ks.getD q 0] else []) := by
  rw [List.take_succ_eq_append_getElem hq, List.filter_append, getD_elem ks 0 hq]
  congr 1
  by_cases h : P ks[q] = true <;> simp [h]
theorem filt_take_le (ks : List Int) (P : Int → Bool) (sub : Int → List Int) (q : Nat) : (((ks.take q).filter P).flatMap sub).length ≤ ((ks.filter P).flatMap sub).length := by
  have h := List.take_append_drop q ks
  have : ((ks.filter P).flatMap sub).length = (((ks.take q).filter P).flatMap sub).length + (((ks.drop q).filter P).flatMap sub).length := by
    rw [← List.length_append, ← List.flatMap_append, ← List.filter_append, h]
  omega

set_option maxRecDepth 100000 in
set_option maxHeartbeats 4000000 in
theorem flat_way1 (a : Option Addr) (c : Nat) (S : List Nd) (W : World) (bo bs bw bg mb cnt : Nat) (gf : Int → Bool) (wf : WF S) (hC : RChk a c S) (hbo : bo < W.heap.size) (hbs : bs ≠ bo) (hbw : bw ≠ bo) (hbg : bg ≠ bo) (hmb : mb ≠ bo)
    (hnd : ∀ w1, Off (fun k => k = bo) W w1 → NdsAt w1 a S) (cs : W.cell? ⟨bs, 0, none⟩ = some (.slice a S.length c)) (cw : W.cell? ⟨bw, 0, none⟩ = some (.func (.func 28) #[] #[.pointer (some ⟨bo, 0, none⟩), .pointer (some ⟨bs, 0, none⟩), .pointer (some ⟨bw, 0, none⟩), .pointer (some ⟨bg, 0, none⟩)])) (cg : W.cell? ⟨bg, 0, none⟩ = some (.map (some mb))) (mk : MarksAt W mb cnt gf) (p : Nat) (hp : p < S.length) (sub : Int → List Int) (hab : ∀ b o, a = some ⟨b, o, none⟩ → b ≠ bo) (r : Nat) (hr : r < S.length) (er : rootE S p = r)
    (hsub : ∀ k ∈ (nd S r).ks, ∀ l w1, l.length + (sub k).length ≤ 1000000 → OrdI W bo l w1 → Calls Try.prog 28 #[.int .i64 k, .pointer (some ⟨bo, 0, none⟩), .pointer (some ⟨bs, 0, none⟩), .pointer (some ⟨bw, 0, none⟩), .pointer (some ⟨bg, 0, none⟩)] w1 fun e w2 => e = .returned (.tuple #[]) ∧ OrdI W bo (l ++ sub k) w2)
    (l : List Int) (w1 : World) (hlen : l.length + 1 + ((nd S r).ks.flatMap sub).length ≤ 1000000) (hI : OrdI W bo l w1) :
    Calls Try.prog 28 #[.int .i64 (p : Int), .pointer (some ⟨bo, 0, none⟩), .pointer (some ⟨bs, 0, none⟩), .pointer (some ⟨bw, 0, none⟩), .pointer (some ⟨bg, 0, none⟩)] w1 fun e w2 => e = .returned (.tuple #[]) ∧ OrdI W bo (l ++ (p : Int) :: (nd S r).ks.flatMap sub) w2 := by
  obtain ⟨i0, hi0, hz0, hz1, hz2⟩ := info_parts info3
  obtain ⟨hO, v, hc, hf, hown⟩ := hI
  have hN := wf.small
  have hlen2 : l.length + 1 ≤ 1000000 := by omega
  have hsz := hO.size
  have CELL : Hid (∀ w2, Off (fun k => k = bo) W w2 → w2.cell? ⟨bs, 0, none⟩ = some (.slice a S.length c) ∧ w2.cell? ⟨bw, 0, none⟩ = some (.func (.func 28) #[] #[.pointer (some ⟨bo, 0, none⟩), .pointer (some ⟨bs, 0, none⟩), .pointer (some ⟨bw, 0, none⟩), .pointer (some ⟨bg, 0, none⟩)]) ∧ w2.cell? ⟨bg, 0, none⟩ = some (.map (some mb)) ∧ MarksAt w2 mb cnt gf) := fun w2 h2 =>
    ⟨(h2.cell (by exact World.block_lt_of_cell? _ _ cs) (by exact hbs)).trans cs, (h2.cell (by exact World.block_lt_of_cell? _ _ cw) (by exact hbw)).trans cw, (h2.cell (by exact World.block_lt_of_cell? _ _ cg) (by exact hbg)).trans cg, mk.kept (h2.block mb mk.lt hmb)⟩
  have SUB : Hid _ := hsub
  have HL : Hid _ := hlen
  have HO : Hid (Off (fun k => k = bo) W w1) := hO
  have HOWN : Hid (w1.ownsRow W.heap.size 3 1 v l.length (l.map (Value.int .i64))) := hown
  have HC : Hid _ := hc
  have HF : Hid _ := hf
  have HND : Hid (∀ w1, Off (fun k => k = bo) W w1 → NdsAt w1 a S) := hnd
  have ROOT : Hid (∀ w1, NdsAt w1 a S → Calls Try.prog 29 #[.agg #[.slice a S.length c], .int .i64 (p : Int)] w1 fun e w' => e = .returned (.int .i64 (r : Int)) ∧ Below w1.heap.size w1 w') := fun w1 h1 => by
    have := rRootOf_any a c S (p : Int) w1 (by omega) (by omega) h1
    rwa [er] at this
  have hr2 : (r : Int) < (S.length : Int) := by omega
  have hr3 : ((r : Int) == -1) = false := by simp
  have hr4 : decide ((r : Int) = -1) = false := by simp
  have kl24 : (nd S r).ks.length ≤ 24 := wf.kids_small hr
  have KIA : Hid (∀ (ka : Option Addr) (kc nb no : Nat) (w4 : World), Off (fun k => k = bo) W w4 → a = some ⟨nb, no, none⟩ → w4.cell? ⟨nb, no + r * 8 + 5, none⟩ = some (.slice ka (nd S r).ks.length kc) → ∀ w1, Off (fun k => k = bo) W w1 → IntsAt w1 ka (nd S r).ks) := fun ka kc nb no w4 h4 ea k5 w1 h1 => by
    obtain ⟨b1, o1, e1, _, _, _, _, _, ⟨ka1, kc1, k1, i1⟩, _⟩ := hnd w1 h1 r hr
    obtain ⟨b0, o0, e0, _, _, _, _, _, ⟨ka0, kc0, k0, i0⟩, _⟩ := hnd W (Off.refl _ _) r hr
    have hlt := World.block_lt_of_cell? _ _ k0
    have hne : b0 ≠ bo := hab b0 o0 e0
    rw [ea] at e0 e1
    cases e0
    cases e1
    have x1 := (h1.cell (p := ⟨nb, no + r * 8 + 5, none⟩) (by exact hlt) (by exact hne)).trans k0
    have x4 := (h4.cell (p := ⟨nb, no + r * 8 + 5, none⟩) (by exact hlt) (by exact hne)).trans k0
    rw [x1] at k1
    rw [x4] at k5
    cases k1
    cases k5
    exact i1
  clear hsub hlen hO hown hnd cs cw cg mk hC wf
  obtain ⟨n, hn⟩ : ∃ n, S.length = n := ⟨_, rfl⟩
  have HN : Hid (S.length = n) := hn
  rw [hn] at hN hp hr hr2 ROOT CELL
  clear hn hab
  go_enter Try.func28, Try.ntmps28
  go_wp2_with (at_builtin; refine wpList_append_own _ rfl _ _ 33 rfl W.heap.size 3 i0 (.int .i64 0) 1 8 Try.underlying33 hi0 hz0 hz1 hz2 rfl (by decide) _ _ _ rfl (HOWN.out.alloc _) ⟨w1.heap.size, 0, none⟩ 1 1 [.int .i64 (p : Int)] rfl rfl ?c1 ?c2 ?c3 ?c4 ?c5 ?_)
  case c1 =>
    intro j u hj
    match j, hj with
    | 0, hj => simp at hj; subst hj; simp [Addr.add]
  case c2 => intro u hu; simp at hu; subst hu; rfl
  case c3 => unfold maxLen; omega
  case c4 => omega
  case c5 => simp; omega
  intro v' w2 hown' hgrow _
  obtain ⟨g', cap', rfl⟩ : ∃ g' cap', v' = .slice (some ⟨g', 0, none⟩) (l.length + 1) cap' := by
    rcases hown'.2 with ⟨_, h⟩ | ⟨g', cap', cur, h, _⟩
    · omega
    · exact ⟨g', cap', h⟩
  obtain ⟨hc2, hf2, hI2⟩ := OrdI.step hbo HO.out HC.out HF.out HOWN.out _ hown' hgrow
  obtain ⟨cs2, _, _, _⟩ := CELL.out _ hI2.1
  have I2 : Hid (OrdI W bo (l ++ [(p : Int)]) _) := hI2
  clear hown' hgrow hI2 hc hf
  go_wp2_with fail
  refine Calls.mono (ROOT.out _ (HND.out _ I2.out.1)) ?_
  rintro e w4 ⟨rfl, hb4⟩
  have I4 : Hid (OrdI W bo (l ++ [(p : Int)]) w4) := I2.out.below hbo hb4
  clear I2 hb4 hc2 hf2 cs2 ROOT
  obtain ⟨cs4, cw4, cg4, mk4⟩ := CELL.out _ I4.out.1
  have MK4 : Hid (MarksAt w4 mb cnt gf) := mk4
  clear mk4
  obtain ⟨nb, no, ea, _, _, _, _, _, ⟨ka, kc, k5, _⟩, _⟩ := HND.out _ I4.out.1 r (by rw [HN.out]; exact hr)
  subst ea
  have KI : Hid (∀ w1, Off (fun k => k = bo) W w1 → IntsAt w1 ka (nd S r).ks) := KIA.out ka kc _ _ w4 I4.out.1 rfl k5
  obtain ⟨L, hL⟩ : ∃ z, (nd S r).ks.length = z := ⟨_, rfl⟩
  have KL : Hid ((nd S r).ks.length = L) := hL
  rw [hL] at k5 kl24
  clear hL
  have I5 : Hid (OrdI W bo (l ++ (p : Int) :: ((nd S r).ks.take 0).flatMap sub) w4) := I4.out
  go_wp2_with fail
  go_loopg [30] L (fun g s wr => ∃ q : Nat, q ≤ L ∧ L - q ≤ g ∧ s = .int .i64 q ∧ Hid (OrdI W bo (l ++ (p : Int) :: ((nd S r).ks.take q).flatMap sub) wr))
  case atStart => exact ⟨0, by omega, by omega, rfl, I5⟩
  case round =>
    obtain ⟨q, hq, hg, rfl, I3⟩ := hrel
    clear cs4 cw4 cg4 k5 I5 I4 MK4
    by_cases hql : q < L
    · have hql2 : (q : Int) < (L : Int) := by omega
      obtain ⟨cs5, cw5, cg5, _⟩ := CELL.out _ I3.out.1
      obtain ⟨nb2, no2, ea2, _, _, _, _, _, ⟨ka2, kc2, k6, hki⟩, _⟩ := HND.out _ I3.out.1 r (by rw [HN.out]; exact hr)
      obtain ⟨kb, ko, ek, hkc⟩ := KI.out _ I3.out.1 q (by rw [KL.out]; exact hql)
      cases ek
      have hmem : (nd S r).ks.getD q 0 ∈ (nd S r).ks := by rw [getD_elem (nd S r).ks 0 (by rw [KL.out]; exact hql)]; exact List.getElem_mem _
      have hft := flat_take (nd S r).ks sub q (by rw [KL.out]; exact hql)
      have hfl := flat_take_le (nd S r).ks sub (q + 1)
      rw [hft] at hfl
      have hcall := SUB.out ((nd S r).ks.getD q 0) hmem _ wr (by have := HL.out; simp only [List.length_append, List.length_cons] at hfl this ⊢; omega) I3.out
      have FT : Hid _ := hft
      clear hmem hft hfl I3 cs5 cg5 k6 hki ea2
      generalize (nd S r).ks.getD q 0 = yy at *
      go_wp2_with fail
      refine Calls.mono hcall ?_
      rintro e w3 ⟨rfl, I6⟩
      have I8 : OrdI W bo (l ++ (p : Int) :: ((nd S r).ks.take (q + 1)).flatMap sub) w3 := by
        rw [FT.out]
        simpa using I6
      have I7 : Hid (OrdI W bo (l ++ (p : Int) :: ((nd S r).ks.take (q + 1)).flatMap sub) w3) := I8
      clear I6 I8 hcall
      go_wp2_with fail
      go_roundg (L - (q + 1))
      case measure => omega
      case rel => exact ⟨q + 1, by omega, by omega, by go_num, I7⟩
    · have hqe : L = q := by omega
      subst hqe
      have E : (nd S r).ks.take L = (nd S r).ks := by rw [← KL.out]; exact List.take_length
      have I6 := I3.out
      rw [E] at I6
      have I7 : Hid _ := I6
      clear I6 E I3
      go_wp2_with fail
      exact bodyPost_ret (v := .tuple #[]) (by simp [results, Try.results28, go_sem]) rfl ⟨rfl, I7.out⟩

set_option maxRecDepth 100000 in
set_option maxHeartbeats 4000000 in
theorem flat_way3 (a : Option Addr) (c : Nat) (S : List Nd) (W : World) (bo bs bw bg mb cnt : Nat) (gf : Int → Bool) (wf : WF S) (hC : RChk a c S) (hbo : bo < W.heap.size) (hbs : bs ≠ bo) (hbw : bw ≠ bo) (hbg : bg ≠ bo) (hmb : mb ≠ bo)
    (hnd : ∀ w1, Off (fun k => k = bo) W w1 → NdsAt w1 a S) (cs : W.cell? ⟨bs, 0, none⟩ = some (.slice a S.length c)) (cw : W.cell? ⟨bw, 0, none⟩ = some (.func (.func 28) #[] #[.pointer (some ⟨bo, 0, none⟩), .pointer (some ⟨bs, 0, none⟩), .pointer (some ⟨bw, 0, none⟩), .pointer (some ⟨bg, 0, none⟩)])) (cg : W.cell? ⟨bg, 0, none⟩ = some (.map (some mb))) (mk : MarksAt W mb cnt gf) (p : Nat) (hp : p < S.length) (sub : Int → List Int) (hab : ∀ b o, a = some ⟨b, o, none⟩ → b ≠ bo) (er : rootE S p = -1) (gn : gf p = false)
    (hsub : ∀ k ∈ (nd S p).ks, ∀ l w1, l.length + (sub k).length ≤ 1000000 → OrdI W bo l w1 → Calls Try.prog 28 #[.int .i64 k, .pointer (some ⟨bo, 0, none⟩), .pointer (some ⟨bs, 0, none⟩), .pointer (some ⟨bw, 0, none⟩), .pointer (some ⟨bg, 0, none⟩)] w1 fun e w2 => e = .returned (.tuple #[]) ∧ OrdI W bo (l ++ sub k) w2)
    (l : List Int) (w1 : World) (hlen : l.length + 1 + ((nd S p).ks.flatMap sub).length ≤ 1000000) (hI : OrdI W bo l w1) :
    Calls Try.prog 28 #[.int .i64 (p : Int), .pointer (some ⟨bo, 0, none⟩), .pointer (some ⟨bs, 0, none⟩), .pointer (some ⟨bw, 0, none⟩), .pointer (some ⟨bg, 0, none⟩)] w1 fun e w2 => e = .returned (.tuple #[]) ∧ OrdI W bo (l ++ (p : Int) :: (nd S p).ks.flatMap sub) w2 := by
  obtain ⟨i0, hi0, hz0, hz1, hz2⟩ := info_parts info3
  obtain ⟨hO, v, hc, hf, hown⟩ := hI
  have hN := wf.small
  have hlen2 : l.length + 1 ≤ 1000000 := by omega
  have hsz := hO.size
  have CELL : Hid (∀ w2, Off (fun k => k = bo) W w2 → w2.cell? ⟨bs, 0, none⟩ = some (.slice a S.length c) ∧ w2.cell? ⟨bw, 0, none⟩ = some (.func (.func 28) #[] #[.pointer (some ⟨bo, 0, none⟩), .pointer (some ⟨bs, 0, none⟩), .pointer (some ⟨bw, 0, none⟩), .pointer (some ⟨bg, 0, none⟩)]) ∧ w2.cell? ⟨bg, 0, none⟩ = some (.map (some mb)) ∧ MarksAt w2 mb cnt gf) := fun w2 h2 =>
    ⟨(h2.cell (by exact World.block_lt_of_cell? _ _ cs) (by exact hbs)).trans cs, (h2.cell (by exact World.block_lt_of_cell? _ _ cw) (by exact hbw)).trans cw, (h2.cell (by exact World.block_lt_of_cell? _ _ cg) (by exact hbg)).trans cg, mk.kept (h2.block mb mk.lt hmb)⟩
  have SUB : Hid _ := hsub
  have HL : Hid _ := hlen
  have HO : Hid (Off (fun k => k = bo) W w1) := hO
  have HOWN : Hid (w1.ownsRow W.heap.size 3 1 v l.length (l.map (Value.int .i64))) := hown
  have HC : Hid _ := hc
  have HF : Hid _ := hf
  have HND : Hid (∀ w1, Off (fun k => k = bo) W w1 → NdsAt w1 a S) := hnd
  have ROOT : Hid (∀ w1, NdsAt w1 a S → Calls Try.prog 29 #[.agg #[.slice a S.length c], .int .i64 (p : Int)] w1 fun e w' => e = .returned (.int .i64 (-1)) ∧ Below w1.heap.size w1 w') := fun w1 h1 => by
    have := rRootOf_any a c S (p : Int) w1 (by omega) (by omega) h1
    rwa [er] at this
  have hp2 : (p : Int) < (S.length : Int) := by omega
  have kl24 : (nd S p).ks.length ≤ 24 := wf.kids_small hp
  have KIA : Hid (∀ (ka : Option Addr) (kc nb no : Nat) (w4 : World), Off (fun k => k = bo) W w4 → a = some ⟨nb, no, none⟩ → w4.cell? ⟨nb, no + p * 8 + 5, none⟩ = some (.slice ka (nd S p).ks.length kc) → ∀ w1, Off (fun k => k = bo) W w1 → IntsAt w1 ka (nd S p).ks) := fun ka kc nb no w4 h4 ea k5 w1 h1 => by
    obtain ⟨b1, o1, e1, _, _, _, _, _, ⟨ka1, kc1, k1, i1⟩, _⟩ := hnd w1 h1 p hp
    obtain ⟨b0, o0, e0, _, _, _, _, _, ⟨ka0, kc0, k0, i0⟩, _⟩ := hnd W (Off.refl _ _) p hp
    have hlt := World.block_lt_of_cell? _ _ k0
    have hne : b0 ≠ bo := hab b0 o0 e0
    rw [ea] at e0 e1
    cases e0
    cases e1
    have x1 := (h1.cell (p := ⟨nb, no + p * 8 + 5, none⟩) (by exact hlt) (by exact hne)).trans k0
    have x4 := (h4.cell (p := ⟨nb, no + p * 8 + 5, none⟩) (by exact hlt) (by exact hne)).trans k0
    rw [x1] at k1
    rw [x4] at k5
    cases k1
    cases k5
    exact i1
  clear hsub hlen hO hown hnd cs cw cg mk hC wf
  obtain ⟨n, hn⟩ : ∃ n, S.length = n := ⟨_, rfl⟩
  have HN : Hid (S.length = n) := hn
  rw [hn] at hN hp hp2 ROOT CELL
  clear hn hab
  go_enter Try.func28, Try.ntmps28
  go_wp2_with (at_builtin; refine wpList_append_own _ rfl _ _ 33 rfl W.heap.size 3 i0 (.int .i64 0) 1 8 Try.underlying33 hi0 hz0 hz1 hz2 rfl (by decide) _ _ _ rfl (HOWN.out.alloc _) ⟨w1.heap.size, 0, none⟩ 1 1 [.int .i64 (p : Int)] rfl rfl ?c1 ?c2 ?c3 ?c4 ?c5 ?_)
  case c1 =>
    intro j u hj
    match j, hj with
    | 0, hj => simp at hj; subst hj; simp [Addr.add]
  case c2 => intro u hu; simp at hu; subst hu; rfl
  case c3 => unfold maxLen; omega
  case c4 => omega
  case c5 => simp; omega
  intro v' w2 hown' hgrow _
  obtain ⟨g', cap', rfl⟩ : ∃ g' cap', v' = .slice (some ⟨g', 0, none⟩) (l.length + 1) cap' := by
    rcases hown'.2 with ⟨_, h⟩ | ⟨g', cap', cur, h, _⟩
    · omega
    · exact ⟨g', cap', h⟩
  obtain ⟨hc2, hf2, hI2⟩ := OrdI.step hbo HO.out HC.out HF.out HOWN.out _ hown' hgrow
  obtain ⟨cs2, _, _, _⟩ := CELL.out _ hI2.1
  have I2 : Hid (OrdI W bo (l ++ [(p : Int)]) _) := hI2
  clear hown' hgrow hI2 hc hf
  go_wp2_with fail
  refine Calls.mono (ROOT.out _ (HND.out _ I2.out.1)) ?_
  rintro e w4 ⟨rfl, hb4⟩
  have I4 : Hid (OrdI W bo (l ++ [(p : Int)]) w4) := I2.out.below hbo hb4
  clear I2 hb4 hc2 hf2 cs2 ROOT
  obtain ⟨cs4, cw4, cg4, mk4⟩ := CELL.out _ I4.out.1
  have MK4 : Hid (MarksAt w4 mb cnt gf) := mk4
  clear mk4
  have hwf := wf_place (q := p) (by omega)
  have hlook := MK4.out.look (t := 48) Try.underlying48 (k := (p : Int)) hwf
  rw [gn] at hlook
  obtain ⟨nb, no, ea, _, _, _, _, _, ⟨ka, kc, k5, _⟩, _⟩ := HND.out _ I4.out.1 p (by rw [HN.out]; exact hp)
  subst ea
  have KI : Hid (∀ w1, Off (fun k => k = bo) W w1 → IntsAt w1 ka (nd S p).ks) := KIA.out ka kc _ _ w4 I4.out.1 rfl k5
  obtain ⟨L, hL⟩ : ∃ z, (nd S p).ks.length = z := ⟨_, rfl⟩
  have KL : Hid ((nd S p).ks.length = L) := hL
  rw [hL] at k5 kl24
  clear hL
  have I5 : Hid (OrdI W bo (l ++ (p : Int) :: ((nd S p).ks.take 0).flatMap sub) w4) := I4.out
  go_wp2_with fail
  go_loopg [78] L (fun g s wr => ∃ q : Nat, q ≤ L ∧ L - q ≤ g ∧ s = .int .i64 q ∧ Hid (OrdI W bo (l ++ (p : Int) :: ((nd S p).ks.take q).flatMap sub) wr))
  case atStart => exact ⟨0, by omega, by omega, rfl, I5⟩
  case round =>
    obtain ⟨q, hq, hg, rfl, I3⟩ := hrel
    clear cs4 cw4 cg4 k5 I5 I4 MK4
    by_cases hql : q < L
    · have hql2 : (q : Int) < (L : Int) := by omega
      obtain ⟨cs5, cw5, cg5, _⟩ := CELL.out _ I3.out.1
      obtain ⟨nb2, no2, ea2, _, _, _, _, _, ⟨ka2, kc2, k6, hki⟩, _⟩ := HND.out _ I3.out.1 p (by rw [HN.out]; exact hp)
      obtain ⟨kb, ko, ek, hkc⟩ := KI.out _ I3.out.1 q (by rw [KL.out]; exact hql)
      cases ek
      have hmem : (nd S p).ks.getD q 0 ∈ (nd S p).ks := by rw [getD_elem (nd S p).ks 0 (by rw [KL.out]; exact hql)]; exact List.getElem_mem _
      have hft := flat_take (nd S p).ks sub q (by rw [KL.out]; exact hql)
      have hfl := flat_take_le (nd S p).ks sub (q + 1)
      rw [hft] at hfl
      have hcall := SUB.out ((nd S p).ks.getD q 0) hmem _ wr (by have := HL.out; simp only [List.length_append, List.length_cons] at hfl this ⊢; omega) I3.out
      have FT : Hid _ := hft
      clear hmem hft hfl I3 cs5 cg5 k6 hki ea2
      generalize (nd S p).ks.getD q 0 = yy at *
      go_wp2_with fail
      refine Calls.mono hcall ?_
      rintro e w3 ⟨rfl, I6⟩
      have I8 : OrdI W bo (l ++ (p : Int) :: ((nd S p).ks.take (q + 1)).flatMap sub) w3 := by
        rw [FT.out]
        simpa using I6
      have I7 : Hid (OrdI W bo (l ++ (p : Int) :: ((nd S p).ks.take (q + 1)).flatMap sub) w3) := I8
      clear I6 I8 hcall
      go_wp2_with fail
      go_roundg (L - (q + 1))
      case measure => omega
      case rel => exact ⟨q + 1, by omega, by omega, by go_num, I7⟩
    · have hqe : L = q := by omega
      subst hqe
      have E : (nd S p).ks.take L = (nd S p).ks := by rw [← KL.out]; exact List.take_length
      have I6 := I3.out
      rw [E] at I6
      have I7 : Hid _ := I6
      clear I6 E I3
      go_wp2_with fail
      exact bodyPost_end (v := .tuple #[]) (by simp [results, Try.results28, go_sem]) rfl ⟨rfl, I7.out⟩

set_option maxRecDepth 100000 in
set_option maxHeartbeats 4000000 in
theorem flat_way2 (a : Option Addr) (c : Nat) (S : List Nd) (W : World) (bo bs bw bg mb cnt : Nat) (gf : Int → Bool) (wf : WF S) (hC : RChk a c S) (hbo : bo < W.heap.size) (hbs : bs ≠ bo) (hbw : bw ≠ bo) (hbg : bg ≠ bo) (hmb : mb ≠ bo)
    (hnd : ∀ w1, Off (fun k => k = bo) W w1 → NdsAt w1 a S) (cs : W.cell? ⟨bs, 0, none⟩ = some (.slice a S.length c)) (cw : W.cell? ⟨bw, 0, none⟩ = some (.func (.func 28) #[] #[.pointer (some ⟨bo, 0, none⟩), .pointer (some ⟨bs, 0, none⟩), .pointer (some ⟨bw, 0, none⟩), .pointer (some ⟨bg, 0, none⟩)])) (cg : W.cell? ⟨bg, 0, none⟩ = some (.map (some mb))) (mk : MarksAt W mb cnt gf) (p : Nat) (hp : p < S.length) (sub : Int → List Int) (hab : ∀ b o, a = some ⟨b, o, none⟩ → b ≠ bo) (er : rootE S p = -1) (gn : gf p = true) (r H : Nat) (rest : List Int) (hr : r < S.length) (hH : H < S.length) (hrh : (nd S r).h = H) (hrt : rootsL S p = (r : Int) :: rest)
    (hsub : ∀ k ∈ ((nd S H).ks.filter (fun c => decide (toF S c.toNat = (p : Int)))), ∀ l w1, l.length + (sub k).length ≤ 1000000 → OrdI W bo l w1 → Calls Try.prog 28 #[.int .i64 k, .pointer (some ⟨bo, 0, none⟩), .pointer (some ⟨bs, 0, none⟩), .pointer (some ⟨bw, 0, none⟩), .pointer (some ⟨bg, 0, none⟩)] w1 fun e w2 => e = .returned (.tuple #[]) ∧ OrdI W bo (l ++ sub k) w2)
    (l : List Int) (w1 : World) (hlen : l.length + 1 + (((nd S H).ks.filter (fun c => decide (toF S c.toNat = (p : Int)))).flatMap sub).length ≤ 1000000) (hI : OrdI W bo l w1) :
    Calls Try.prog 28 #[.int .i64 (p : Int), .pointer (some ⟨bo, 0, none⟩), .pointer (some ⟨bs, 0, none⟩), .pointer (some ⟨bw, 0, none⟩), .pointer (some ⟨bg, 0, none⟩)] w1 fun e w2 => e = .returned (.tuple #[]) ∧ OrdI W bo (l ++ (p : Int) :: ((nd S H).ks.filter (fun c => decide (toF S c.toNat = (p : Int)))).flatMap sub) w2 := by
  obtain ⟨i0, hi0, hz0, hz1, hz2⟩ := info_parts info3
  obtain ⟨hO, v, hc, hf, hown⟩ := hI
  have hN := wf.small
  have hlen2 : l.length + 1 ≤ 1000000 := by omega
  have hsz := hO.size
  have CELL : Hid (∀ w2, Off (fun k => k = bo) W w2 → w2.cell? ⟨bs, 0, none⟩ = some (.slice a S.length c) ∧ w2.cell? ⟨bw, 0, none⟩ = some (.func (.func 28) #[] #[.pointer (some ⟨bo, 0, none⟩), .pointer (some ⟨bs, 0, none⟩), .pointer (some ⟨bw, 0, none⟩), .pointer (some ⟨bg, 0, none⟩)]) ∧ w2.cell? ⟨bg, 0, none⟩ = some (.map (some mb)) ∧ MarksAt w2 mb cnt gf) := fun w2 h2 =>
    ⟨(h2.cell (by exact World.block_lt_of_cell? _ _ cs) (by exact hbs)).trans cs, (h2.cell (by exact World.block_lt_of_cell? _ _ cw) (by exact hbw)).trans cw, (h2.cell (by exact World.block_lt_of_cell? _ _ cg) (by exact hbg)).trans cg, mk.kept (h2.block mb mk.lt hmb)⟩
  have SUB : Hid _ := hsub
  have HL : Hid _ := hlen
  have HO : Hid (Off (fun k => k = bo) W w1) := hO
  have HOWN : Hid (w1.ownsRow W.heap.size 3 1 v l.length (l.map (Value.int .i64))) := hown
  have HC : Hid _ := hc
  have HF : Hid _ := hf
  have HND : Hid (∀ w1, Off (fun k => k = bo) W w1 → NdsAt w1 a S) := hnd
  have ROOT : Hid (∀ w1, NdsAt w1 a S → Calls Try.prog 29 #[.agg #[.slice a S.length c], .int .i64 (p : Int)] w1 fun e w' => e = .returned (.int .i64 (-1)) ∧ Below w1.heap.size w1 w') := fun w1 h1 => by
    have := rRootOf_any a c S (p : Int) w1 (by omega) (by omega) h1
    rwa [er] at this
  have hp2 : (p : Int) < (S.length : Int) := by omega
  have RTS : Hid (∀ w1, NdsAt w1 a S → Calls _ _ _ _ _) := fun w1 h1 => rRoots_any a c S p w1 hN hp h1
  have TO : Hid (∀ (y : Nat), y < S.length → ∀ w1, NdsAt w1 a S → Calls _ _ _ _ _) := fun y hy w1 h1 => rTo_any a c S y w1 wf hC hy h1
  have KP : Hid (∀ j, j < (nd S H).ks.length → ∃ y : Nat, (nd S H).ks.getD j 0 = y ∧ y < S.length) := fun j hj => by
    obtain ⟨k, e, hk, _⟩ := wf.kid hH (x := (nd S H).ks.getD j 0) (by rw [getD_elem _ _ hj]; exact List.getElem_mem hj)
    exact ⟨k, e, hk⟩
  have hr2 : (r : Int) < (S.length : Int) := by omega
  have hH2 : (H : Int) < (S.length : Int) := by omega
  have HRT : Hid (rootsL S p = (r : Int) :: rest) := hrt
  have kl24 : (nd S H).ks.length ≤ 24 := wf.kids_small hH
  have KIA : Hid (∀ (ka : Option Addr) (kc nb no : Nat) (w4 : World), Off (fun k => k = bo) W w4 → a = some ⟨nb, no, none⟩ → w4.cell? ⟨nb, no + H * 8 + 5, none⟩ = some (.slice ka (nd S H).ks.length kc) → ∀ w1, Off (fun k => k = bo) W w1 → IntsAt w1 ka (nd S H).ks) := fun ka kc nb no w4 h4 ea k5 w1 h1 => by
    obtain ⟨b1, o1, e1, _, _, _, _, _, ⟨ka1, kc1, k1, i1⟩, _⟩ := hnd w1 h1 H hH
    obtain ⟨b0, o0, e0, _, _, _, _, _, ⟨ka0, kc0, k0, i0⟩, _⟩ := hnd W (Off.refl _ _) H hH
    have hlt := World.block_lt_of_cell? _ _ k0
    have hne : b0 ≠ bo := hab b0 o0 e0
    rw [ea] at e0 e1
    cases e0
    cases e1
    have x1 := (h1.cell (p := ⟨nb, no + H * 8 + 5, none⟩) (by exact hlt) (by exact hne)).trans k0
    have x4 := (h4.cell (p := ⟨nb, no + H * 8 + 5, none⟩) (by exact hlt) (by exact hne)).trans k0
    rw [x1] at k1
    rw [x4] at k5
    cases k1
    cases k5
    exact i1
  clear hsub hlen hO hown hnd cs cw cg mk hC wf
  obtain ⟨n, hn⟩ : ∃ n, S.length = n := ⟨_, rfl⟩
  have HN : Hid (S.length = n) := hn
  rw [hn] at hN hp hp2 hr hH hr2 hH2 ROOT CELL RTS TO KP
  clear hn hab
  clear hrt
  obtain ⟨ks, hks⟩ : ∃ z, (nd S H).ks = z := ⟨_, rfl⟩
  have HKS : Hid ((nd S H).ks = ks) := hks
  rw [hks] at KIA kl24 SUB HL KP ⊢
  clear hks
  go_enter Try.func28, Try.ntmps28
  go_wp2_with (at_builtin; refine wpList_append_own _ rfl _ _ 33 rfl W.heap.size 3 i0 (.int .i64 0) 1 8 Try.underlying33 hi0 hz0 hz1 hz2 rfl (by decide) _ _ _ rfl (HOWN.out.alloc _) ⟨w1.heap.size, 0, none⟩ 1 1 [.int .i64 (p : Int)] rfl rfl ?c1 ?c2 ?c3 ?c4 ?c5 ?_)
  case c1 =>
    intro j u hj
    match j, hj with
    | 0, hj => simp at hj; subst hj; simp [Addr.add]
  case c2 => intro u hu; simp at hu; subst hu; rfl
  case c3 => unfold maxLen; omega
  case c4 => omega
  case c5 => simp; omega
  intro v' w2 hown' hgrow _
  obtain ⟨g', cap', rfl⟩ : ∃ g' cap', v' = .slice (some ⟨g', 0, none⟩) (l.length + 1) cap' := by
    rcases hown'.2 with ⟨_, h⟩ | ⟨g', cap', cur, h, _⟩
    · omega
    · exact ⟨g', cap', h⟩
  obtain ⟨hc2, hf2, hI2⟩ := OrdI.step hbo HO.out HC.out HF.out HOWN.out _ hown' hgrow
  obtain ⟨cs2, _, _, _⟩ := CELL.out _ hI2.1
  have I2 : Hid (OrdI W bo (l ++ [(p : Int)]) _) := hI2
  clear hown' hgrow hI2 hc hf
  go_wp2_with fail
  refine Calls.mono (ROOT.out _ (HND.out _ I2.out.1)) ?_
  rintro e w4 ⟨rfl, hb4⟩
  have I4 : Hid (OrdI W bo (l ++ [(p : Int)]) w4) := I2.out.below hbo hb4
  clear I2 hb4 hc2 hf2 cs2 ROOT
  obtain ⟨cs4, cw4, cg4, mk4⟩ := CELL.out _ I4.out.1
  have MK4 : Hid (MarksAt w4 mb cnt gf) := mk4
  clear mk4
  have hwf := wf_place (q := p) (by omega)
  have hlook := MK4.out.look (t := 48) Try.underlying48 (k := (p : Int)) hwf
  rw [gn] at hlook
  go_wp2_with fail
  refine Calls.mono (RTS.out _ (HND.out _ I4.out.1)) ?_
  rintro e w5 ⟨v5, rfl, hb5, hown5⟩
  obtain ⟨ra, rc, hv5, hri⟩ := ints_own hown5
  subst hv5
  have I5 : Hid (OrdI W bo (l ++ [(p : Int)]) w5) := I4.out.below hbo hb5
  obtain ⟨rb, ro, era, hrc⟩ := hri 0 (by rw [HRT.out]; simp)
  rw [HRT.out, Nat.add_zero] at hrc
  have hrl : (0 : Int) < ((rootsL S p).length : Int) := by rw [HRT.out]; first | (simp; done) | (simp; omega)
  subst era
  have hrc2 : w5.cell? ⟨rb, ro, none⟩ = some (.int .i64 (r : Int)) := hrc
  clear I4 hb5 hown5 hri hrc hlook MK4 cs4 cw4 cg4
  generalize (rootsL S p).length = rl at *
  obtain ⟨cs5, cw5, cg5, _⟩ := CELL.out _ I5.out.1
  obtain ⟨nb, no, ea, _, _, _, _, _, _, h6, _⟩ := HND.out _ I5.out.1 r (by rw [HN.out]; exact hr)
  subst ea
  rw [hrh] at h6
  obtain ⟨nb', no', ea, _, _, _, _, _, ⟨ka, kc, k5, _⟩, _⟩ := HND.out _ I5.out.1 H (by rw [HN.out]; exact hH)
  cases ea
  rw [HKS.out] at k5
  have KI : Hid (∀ w1, Off (fun k => k = bo) W w1 → IntsAt w1 ka ks) := KIA.out ka kc _ _ w5 I5.out.1 rfl k5
  have z1 := World.block_lt_of_cell? _ _ hrc2
  have z2 := World.block_lt_of_cell? _ _ h6
  obtain ⟨L, hL⟩ : ∃ z, ks.length = z := ⟨_, rfl⟩
  have KL : Hid (ks.length = L) := hL
  rw [hL] at k5 kl24 KP
  clear hL
  have I6 : Hid (∀ nn, OrdI W bo (l ++ (p : Int) :: ((ks.take 0).filter (fun c => decide (toF S c.toNat = (p : Int)))).flatMap sub) (w5.drewN nn)) := fun nn => I5.out.below hbo (Below.drewNs (Below.refl _ _) nn)
  go_wp2_with fail
  go_big_quiet (fail)
  go_wp2_with fail
  go_loopg [58] L (fun g s wr => ∃ q : Nat, q ≤ L ∧ L - q ≤ g ∧ s = .int .i64 q ∧ Hid (OrdI W bo (l ++ (p : Int) :: ((ks.take q).filter (fun c => decide (toF S c.toNat = (p : Int)))).flatMap sub) wr))
  case atStart => exact ⟨0, by omega, by omega, rfl, I6.out _⟩
  case round =>
    obtain ⟨q, hq, hg, rfl, I3⟩ := hrel
    clear cs5 cw5 cg5 k5 I5 I6 h6 hrc2 z1 z2
    by_cases hql : q < L
    · have hql2 : (q : Int) < (L : Int) := by omega
      have hqk : q < ks.length := by rw [KL.out]; exact hql
      obtain ⟨cs5, cw5, cg5, _⟩ := CELL.out _ I3.out.1
      obtain ⟨kb, ko, ek, hkc⟩ := KI.out _ I3.out.1 q hqk
      subst ek
      obtain ⟨y, hy, hyn⟩ := KP.out q hql
      rw [hy] at hkc
      have hft := filt_take ks (fun c => decide (toF S c.toNat = (p : Int))) q hqk
      rw [hy] at hft
      have hfl := filt_take_le ks (fun c => decide (toF S c.toNat = (p : Int))) sub (q + 1)
      have hmem : (y : Int) ∈ ks := by rw [← hy, getD_elem ks 0 hqk]; exact List.getElem_mem _
      have TOy : Hid _ := TO.out y hyn
      have FT : Hid ((ks.take (q + 1)).filter (fun c => decide (toF S c.toNat = (p : Int))) = (ks.take q).filter (fun c => decide (toF S c.toNat = (p : Int))) ++ (if decide (toF S y = (p : Int)) then [(y : Int)] else [])) := by
        show _ = _
        rw [hft, Int.toNat_natCast]
      have HFL : Hid _ := hfl
      have HMEM : Hid _ := hmem
      clear hft hfl hmem hqk hy
      go_wp2_with fail
      refine Calls.mono (TOy.out _ (HND.out _ I3.out.1)) ?_
      rintro e w6 ⟨rfl, hb6⟩
      have I6 : Hid (OrdI W bo (l ++ (p : Int) :: ((ks.take q).filter (fun c => decide (toF S c.toNat = (p : Int)))).flatMap sub) w6) := I3.out.below hbo hb6
      clear I3 hb6 cs5 cw5 cg5 hkc
      obtain ⟨cs6, cw6, cg6, _⟩ := CELL.out _ I6.out.1
      obtain ⟨tt, htt⟩ : ∃ z, toF S y = z := ⟨_, rfl⟩
      have HTT : Hid (toF S y = tt) := htt
      rw [htt] at FT ⊢
      clear htt
      by_cases hte : tt = (p : Int)
      · subst hte
        have FT2 : Hid ((ks.take (q + 1)).filter (fun c => decide (toF S c.toNat = (p : Int))) = (ks.take q).filter (fun c => decide (toF S c.toNat = (p : Int))) ++ [(y : Int)]) := by show _ = _; rw [FT.out]; simp
        have hcall := SUB.out (y : Int) (by rw [List.mem_filter]; exact ⟨HMEM.out, by rw [Int.toNat_natCast, HTT.out]; simp⟩) _ w6 (by
          have h1 := HL.out
          have h2 := HFL.out
          rw [FT2.out, List.flatMap_append] at h2
          simp only [List.length_append, List.length_cons, List.flatMap_cons, List.flatMap_nil, List.append_nil] at h1 h2 ⊢
          omega) I6.out
        have HCALL : Hid _ := hcall
        clear hcall FT I6 cs6 cg6
        go_wp2_with fail
        refine Calls.mono HCALL.out ?_
        rintro e w7 ⟨rfl, I7⟩
        have I8 : OrdI W bo (l ++ (p : Int) :: ((ks.take (q + 1)).filter (fun c => decide (toF S c.toNat = (p : Int)))).flatMap sub) w7 := by
          rw [FT2.out, List.flatMap_append]
          simpa using I7
        have I9 : Hid (OrdI W bo (l ++ (p : Int) :: ((ks.take (q + 1)).filter (fun c => decide (toF S c.toNat = (p : Int)))).flatMap sub) w7) := I8
        clear I7 I8
        go_wp2_with fail
        go_roundg (L - (q + 1))
        case measure => omega
        case rel => exact ⟨q + 1, by omega, by omega, by go_num, I9⟩
      · have hd : decide (tt = (p : Int)) = false := decide_eq_false hte
        have hd2 : (tt == (p : Int)) = false := beq_eq_false_iff_ne.2 hte
        have I8 : OrdI W bo (l ++ (p : Int) :: ((ks.take (q + 1)).filter (fun c => decide (toF S c.toNat = (p : Int)))).flatMap sub) w6 := by
          have h := I6.out
          rw [FT.out, hd]
          simpa using h
        have I9 : Hid (OrdI W bo (l ++ (p : Int) :: ((ks.take (q + 1)).filter (fun c => decide (toF S c.toNat = (p : Int)))).flatMap sub) w6) := I8
        clear FT I6 I8
        go_wp2_with fail
        go_roundg (L - (q + 1))
        case measure => omega
        case rel => exact ⟨q + 1, by omega, by omega, by go_num, I9⟩
    · have hqe : L = q := by omega
      subst hqe
      have E : ks.take L = ks := by rw [← KL.out]; exact List.take_length
      have I6 := I3.out
      rw [E] at I6
      have I7 : Hid _ := I6
      clear I6 E I3
      go_wp2_with fail
      exact bodyPost_ret (v := .tuple #[]) (by simp [results, Try.results28, go_sem]) rfl ⟨rfl, I7.out⟩
end Go.Proofs.Ytlgnapdhnlhkpaa
