/-
  The reference's RootsOf, SeenFrom, TargetFor.
-/
import Derived.Test.YtiekhgpnmcffiacJRaRd
import Derived.Test.YtiekhgpnmcffiacJRbRh
import Derived.Test.YtiekhgpnmcffiacJTbSp
import Derived.Test.YtiekhgpnmcffiacJSn
import Derived.Test.YtiekhgpnmcffiacJLh
namespace Go.Proofs.Ytiekhgpnmcffiac
open Go.RowKit

def noRootB (S : List Nd) (x : Int) : Bool := decide ((nd S x.toNat).h = -1)
def rootsL (S : List Nd) (k : Nat) : List Int := flt (noRootB S) (pathF S k)

theorem line_path {S : List Nd} {k : Nat} (hk : k < S.length) : lineF S (S.length + 1) (k : Int) = pathF S k := by
  rw [lineF, if_pos (isPl_nat.2 hk), Int.toNat_natCast]
  rfl

theorem mem_rootsL {S : List Nd} {k : Nat} {x : Int} : x ∈ rootsL S k ↔ x ∈ pathF S k ∧ (nd S x.toNat).h ≠ -1 := by
  unfold rootsL flt noRootB
  simp

theorem rootsL_len (S : List Nd) (k : Nat) : (rootsL S k).length ≤ S.length + 1 := Nat.le_trans (flt_le _ _) (path_len S k)

theorem rootsL_place {S : List Nd} {k : Nat} (hk : k < S.length) {y : Int} (hy : y ∈ rootsL S k) : ∃ x : Nat, y = x ∧ x < S.length := by
  obtain ⟨x, _, e1, e2, _⟩ := mem_path hk (mem_rootsL.1 hy).1
  exact ⟨x, e1, e2⟩

theorem roots_of_L {S : List Nd} {p q : Nat} : rootsF S p q = flt (fun x => decide (x ∈ rootsL S p)) (rootsL S q) := by
  unfold rootsF
  conv => rhs; arg 2; unfold rootsL
  unfold flt
  rw [List.filter_filter]
  refine List.filter_congr fun x _ => ?_
  unfold outB noRootB
  have := mem_rootsL (S := S) (k := p) (x := x)
  by_cases h1 : x ∈ pathF S p <;> by_cases h2 : (nd S x.toNat).h = -1 <;> simp [h1, h2, this]

/-- What is seen, root by root. -/
def hidB (S : List Nd) (p : Nat) (x : Int) : Bool := (nd S x.toNat).c && !decide (x ∈ rootsL S p)

theorem seen_L {S : List Nd} {p q : Nat} : seenF S p q = !((rootsL S q).any (hidB S p)) := by
  unfold seenF
  rw [roots_of_L]
  congr 1
  unfold flt
  rw [List.any_filter]
  congr 1
  funext x
  unfold hidB
  cases (nd S x.toNat).c <;> simp

theorem fold_last (f : Int → Int) (p : Int → Bool) : ∀ (l : List Int) (k : Int), l.foldl (fun acc x => if p x then acc else f x) k = if flt p l = [] then k else f ((flt p l).getLastD 0)
  | [], k => by simp [flt]
  | x :: l, k => by
    rw [List.foldl_cons, fold_last f p l]
    by_cases h : p x = true
    · have e : flt p (x :: l) = flt p l := by unfold flt; simp [h]
      rw [e, if_pos h]
    · have e : flt p (x :: l) = x :: flt p l := by unfold flt; simp [h]
      rw [e, if_neg h, if_neg (List.cons_ne_nil _ _)]
      cases hl : flt p l with
      | nil => simp
      | cons y r => simp [List.getLastD]

def tgtF (S : List Nd) (told : Nat) (l : List Int) (k : Int) : Int := l.foldl (fun acc x => if decide (x ∈ rootsL S told) then acc else (nd S x.toNat).h) k

theorem target_L {S : List Nd} {k told : Nat} : targetF S k told = tgtF S told (rootsL S k) k := by
  unfold targetF tgtF
  rw [fold_last (fun x => (nd S x.toNat).h) (fun x => decide (x ∈ rootsL S told)), ← roots_of_L]

theorem take_getD {l : List Int} {i : Nat} (h : i < l.length) : l.take (i + 1) = l.take i ++ [l.getD i 0] := by
  rw [List.take_succ_eq_append_getElem h, getD_elem l 0 h]

set_option maxRecDepth 100000 in
set_option maxHeartbeats 4000000 in
theorem rRoots_any (a : Option Addr) (c : Nat) (S : List Nd) (k : Nat) (w : World) (hN : S.length ≤ 24) (hk : k < S.length) (hS : NdsAt w a S) :
    Calls Try.prog 26 #[.agg #[.slice a S.length c], .int .i64 (k : Int)] w fun e w' => ∃ v, e = .returned v ∧ Below w.heap.size w w' ∧ w'.ownsRow w.heap.size 3 1 v (rootsL S k).length ((rootsL S k).map (Value.int .i64)) := by
  obtain ⟨i0, hi0, hz0, hz1, hz2⟩ := info_parts info3
  have dl := fun (W : World) (hW : NdsAt W a S) => rLine_any a c S (k : Int) W hN hW
  rw [line_path hk] at dl
  have DL : Hid _ := dl
  have HS : Hid (NdsAt w a S) := hS
  have PL : Hid (∀ y ∈ pathF S k, ∃ x : Nat, y = x ∧ x < S.length) := fun y hy => by
    obtain ⟨x, _, e1, e2, _⟩ := mem_path hk hy
    exact ⟨x, e1, e2⟩
  have PB : Hid ((pathF S k).length ≤ 25) := Nat.le_trans (path_len S k) (by omega)
  have R0 : Hid (rootsL S k = flt (noRootB S) (pathF S k)) := (rfl : rootsL S k = _)
  clear hS dl
  generalize rootsL S k = RES at *
  generalize pathF S k = P at *
  obtain ⟨m, hm⟩ : ∃ m, P.length = m := ⟨_, rfl⟩
  have HM : Hid (P.length = m) := hm
  rw [hm] at DL PB
  have hmb : m ≤ 25 := PB.out
  obtain ⟨n, hn⟩ : ∃ n, S.length = n := ⟨_, rfl⟩
  have HN : Hid (S.length = n) := hn
  rw [hn] at hN hk DL PL ⊢
  clear hn hm
  go_enter Try.func26, Try.ntmps26
  go_wp2_with fail
  refine Calls.mono (DL.out _ (HS.out.below ((Below.refl _ _).alloc (Nat.le_refl _) _))) ?_
  rintro e w1 ⟨v, rfl, hb1, hown1⟩
  have hb1' := hb1
  simp only [World.size_alloc] at hb1'
  have hs1 := hb1'.size
  simp only [World.size_alloc] at hs1
  have ho2 : w1.ownsRow (w.alloc (.cells #[.slice a n c] 24)).heap.size 3 1 v P.length (P.map (Value.int .i64)) := by rw [HM.out]; exact hown1
  obtain ⟨pa, pc, hv, hints, _⟩ := own_slice ho2
  rw [HM.out] at hv
  subst hv
  have l0 : w1.cell? ⟨w.heap.size, 0, none⟩ = some (.slice a n c) := (hb1'.cell (by simp)).trans (by go_simp)
  have HB1 : Hid (Below w.heap.size w w1) := ((Below.refl _ _).alloc (Nat.le_refl _) _).trans (hb1'.mono (by omega))
  have HI : Hid (IntsAt w1 pa P) := hints
  clear hb1 hb1' hown1 ho2 hints
  go_wp2_with fail
  go_loopg [5, 12] m (fun g s5 s12 wr => ∃ (i : Nat) (l : List Int), i ≤ m ∧ m - i ≤ g ∧ s12 = .int .i64 i ∧ l.length ≤ i ∧ Hid (Below w1.heap.size w1 wr) ∧ wr.cell? ⟨w.heap.size, 0, none⟩ = some (.slice a n c) ∧ w1.heap.size ≤ wr.heap.size ∧ Hid (wr.ownsRow w1.heap.size 3 1 s5 l.length (l.map (Value.int .i64))) ∧ Hid (l = flt (noRootB S) (P.take i)))
  case atStart => exact ⟨0, [], by omega, by omega, rfl, by simp, Below.refl _ _, l0, Nat.le_refl _, World.ownsRow_nil _ _ _ _, (by simp [flt] : ([] : List Int) = flt (noRootB S) (P.take 0))⟩
  case round =>
    obtain ⟨i, l, hi, hg, rfl, hli, HB, cs, hsz, HO, HE⟩ := hrel
    clear l0
    obtain ⟨qa, qc, hv, _⟩ := own_slice HO.out
    subst hv
    obtain ⟨ln, hln⟩ : ∃ y, l.length = y := ⟨_, rfl⟩
    have HLN : Hid (l.length = ln) := hln
    rw [hln] at HO hli ⊢
    clear hln
    have HBW : Hid (Below w.heap.size w wr) := HB1.out.trans (HB.out.mono HB1.out.size)
    by_cases hlt : i < m
    · obtain ⟨y, hy, hyn⟩ := PL.out (P.getD i 0) (by rw [getD_elem P 0 (by rw [HM.out]; exact hlt)]; exact List.getElem_mem _)
      obtain ⟨pb, po, ep, hpc⟩ := (HI.out.below HB.out) i (by rw [HM.out]; exact hlt)
      subst ep
      rw [hy] at hpc
      obtain ⟨nb, no, ea, _, _, _, _, _, _, c6, _⟩ := (HS.out.below HBW.out) y (by rw [HN.out]; exact hyn)
      subst ea
      have hy2 : (y : Int) < (n : Int) := by omega
      have hi2 : (i : Int) < (m : Int) := by omega
      have NX : Hid (flt (noRootB S) (P.take (i + 1)) = l ++ (if (nd S y).h = -1 then [] else [(y : Int)])) := by
        have e := flt_succ (noRootB S) P i (by rw [HM.out]; exact hlt)
        rw [hy] at e
        show flt _ _ = _
        rw [e, ← HE.out]
        unfold noRootB
        rw [Int.toNat_natCast]
        by_cases h : (nd S y).h = -1 <;> simp [h]
      clear HE hy
      generalize (nd S y).h = hh at *
      by_cases hh1 : hh = -1
      · subst hh1
        have E2 : Hid (l = flt (noRootB S) (P.take (i + 1))) := (by rw [NX.out]; simp : l = flt (noRootB S) (P.take (i + 1)))
        have HO2 : Hid (wr.ownsRow w1.heap.size 3 1 (.slice qa ln qc) l.length (l.map (Value.int .i64))) := (by rw [HLN.out]; exact HO.out : wr.ownsRow w1.heap.size 3 1 (.slice qa ln qc) l.length (l.map (Value.int .i64)))
        clear NX HO
        go_wp2
        go_roundg (m - (i + 1))
        case measure => omega
        case rel => exact ⟨i + 1, l, by omega, by omega, by go_num, by rw [HLN.out]; omega, HB, cs, hsz, HO2, E2⟩
      · have hhb : (hh == -1) = false := beq_eq_false_iff_ne.2 hh1
        have hhd : decide (hh = -1) = false := decide_eq_false hh1
        have E2 : Hid (l ++ [(y : Int)] = flt (noRootB S) (P.take (i + 1))) := (by rw [NX.out, if_neg hh1] : l ++ [(y : Int)] = flt (noRootB S) (P.take (i + 1)))
        have OB : Hid (∀ k, (Value.slice qa ln qc).ownBlock = some k → w1.heap.size ≤ k) := fun k hk => (HO.out.lt k hk).1
        have hln1 : ln ≤ 24 := by omega
        clear NX
        go_wp2_with (at_builtin; refine wpList_append_own _ rfl _ _ 39 rfl w1.heap.size 3 i0 (.int .i64 0) 1 8 Try.underlying39 hi0 hz0 hz1 hz2 rfl (by decide) _ _ _ rfl (HO.out.alloc _) ⟨wr.heap.size, 0, none⟩ 1 1 [.int .i64 (y : Int)] rfl rfl ?c1 ?c2 ?c3 ?c4 ?c5 ?_)
        case c2 => first | rfl | (intro u hu; simp at hu; subst hu; rfl) | simp
        case c3 => unfold maxLen; omega
        case c4 => omega
        case c5 => first | omega | (simp; omega)
        case c1 => first | (go_simp; done) | (intro j u hj; match j, hj with | 0, hj => (cases hj; go_simp) | (j + 1), hj => simp at hj)
        intro v' w2 hown' hgrow _
        have hb2 : Below w1.heap.size wr w2 := ((Below.refl _ wr).alloc (by omega) _).grown hgrow (by simp; omega) (fun k hk => OB.out k hk)
        have HB2 : Hid (Below w1.heap.size w1 w2) := HB.out.trans hb2
        have cs2 := (hb2.cell (p := ⟨w.heap.size, 0, none⟩) (by show w.heap.size < _; omega)).trans cs
        have HO2 : Hid (w2.ownsRow w1.heap.size 3 1 v' (l ++ [(y : Int)]).length ((l ++ [(y : Int)]).map (Value.int .i64))) := by
          have h2 := hown'
          rw [show (l ++ [(y : Int)]).length = ln + 1 by simp [HLN.out], List.map_append]
          exact h2
        have hs2 := HB2.out.size
        clear hown' hgrow hb2 cs HO
        go_wp2_with fail
        go_roundg (m - (i + 1))
        case measure => omega
        case rel => exact ⟨i + 1, l ++ [(y : Int)], by omega, by omega, by go_num, by simp [HLN.out]; omega, HB2, cs2, hs2, HO2, E2⟩
    · have hie : i = m := by omega
      subst hie
      have e := HE.out
      rw [List.take_of_length_le (by rw [HM.out]; omega), ← R0.out] at e
      have OW : Hid (wr.ownsRow w.heap.size 3 1 (.slice qa ln qc) RES.length (RES.map (Value.int .i64))) := by
        have h2 := ownsRow_base HO.out (show w.heap.size ≤ w1.heap.size by omega)
        rw [← HLN.out, e] at h2
        rw [← HLN.out, e]
        exact h2
      clear HE e HO
      go_wp2
      go_ret
      exact ⟨_, rfl, HBW.out, OW.out⟩
end Go.Proofs.Ytiekhgpnmcffiac

namespace Go.Proofs.Ytiekhgpnmcffiac
open Go.RowKit

theorem order_deep {S : List Nd} : ∀ {f p : Nat}, Deep S f p → ∀ f', f ≤ f' → orderF S f' p = orderF S f p
  | 0, p, h, f', _ => by
    cases f' with
    | zero => rfl
    | succ f' =>
      have h0 : (nd S p).ks = [] := h
      simp [orderF, h0]
  | f + 1, p, h, f', hf => by
    cases f' with
    | zero => omega
    | succ f' =>
      simp only [orderF]
      congr 1
      refine flatMap_congr' (fun x hx => ?_)
      exact order_deep (h x hx).2 f' (by omega)

theorem giv_none {S : List Nd} (h : WF S) {p : Nat} (hp : p < S.length) (hn : ∀ j r, Up S j p r → (nd S r).h = -1) : givT S S.length p = [] := by
  cases hg : givT S S.length p with
  | nil => rfl
  | cons c l =>
    obtain ⟨H, r, j, _, _, h3, h4, _⟩ := (giv_ok h).some p hp c (by rw [hg]; simp)
    have := hn j r h4
    omega

theorem show_plain {S : List Nd} (h : WF S) : ∀ {f p : Nat}, p < S.length → (∀ j r, Up S j p r → (nd S r).h = -1) → (∀ x ∈ orderF S f p, rootE S x = -1) → orderG (showF S (givT S S.length)) f p = orderF S f p
  | 0, _, _, _, _ => rfl
  | f + 1, p, hp, hn, hr => by
    have e : showF S (givT S S.length) p = (nd S p).ks := by
      unfold showF
      rw [if_neg (by simpa using hr (p : Int) (by simp [orderF])), giv_none h hp hn, if_neg (by simp)]
    simp only [orderG, orderF]
    rw [e]
    congr 1
    refine flatMap_congr' (fun x hx => ?_)
    obtain ⟨k, rfl, hk, _, _, hru⟩ := h.kid hp hx
    rw [Int.toNat_natCast]
    refine show_plain h hk (fun j r hu => ?_) (fun y hy => hr y ?_)
    · cases j with
      | zero =>
        have : k = r := hu
        subst this
        exact (h.host_of_parent hk (by have := (h.kid hp hx); obtain ⟨k', e', _, _, h4, _⟩ := this; have : k' = k := by omega
                                       subst this; omega)).1
      | succ j =>
        obtain ⟨q, _, e2, hu2⟩ := hu
        have : q = p := by omega
        subst this
        exact hn j r hu2
    · simp only [orderF, List.mem_cons, List.mem_flatMap]
      exact Or.inr ⟨(k : Int), hx, by rw [Int.toNat_natCast]; exact hy⟩

theorem flat_plain {S : List Nd} (h : WF S) {k : Nat} (hk : k < S.length) (hr : rootsL S k = []) (hh : ∀ i, i < S.length → ¬ (0 ≤ (nd S i).h ∧ (nd S i).h ∈ orderF S S.length k)) : flatF S k = orderF S S.length k := by
  have hf : S.length ≤ farF S := by
    unfold farF
    have : S.length + 2 < 3 ^ (S.length + 2) := Nat.lt_pow_self (by omega)
    omega
  have e := order_deep (h.deep_all hk) (farF S) hf
  unfold flatF
  rw [← e]
  refine show_plain h hk (fun j r hu => ?_) (fun x hx => ?_)
  · obtain ⟨pre, e2⟩ := h.path_suffix hk hu
    by_cases hne : (nd S r).h = -1
    · exact hne
    · have : (r : Int) ∈ rootsL S k := mem_rootsL.2 ⟨by rw [e2]; exact List.mem_append_right _ (path_head S r), by rw [Int.toNat_natCast]; exact hne⟩
      rw [hr] at this
      cases this
  · rw [e] at hx
    obtain ⟨q, rfl, hq, _⟩ := mem_order h hk (h.deep_all hk) x hx
    exact rootE_none (fun i hi e3 => hh i hi ⟨by omega, by rw [e3]; exact hx⟩)
end Go.Proofs.Ytiekhgpnmcffiac
