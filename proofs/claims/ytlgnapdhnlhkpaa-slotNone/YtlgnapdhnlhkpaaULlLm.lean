/-
  Where no root stands around, what is shown is what stands there: without the program.
-/
import Derived.Test.YtlgnapdhnlhkpaaULgLh
import Derived.Test.YtlgnapdhnlhkpaaULiRhRp
import Derived.Test.YtlgnapdhnlhkpaaULk
namespace Go.Proofs.Ytlgnapdhnlhkpaa
open Go.RowKit

theorem order_deep {S : List Nd} : ∀ {f p : Nat}, Deep S f p → ∀ f', f ≤ f' → orderF S f' p = orderF S f p
  | 0, p, h, f', _ => by
    cases f' with
    | zero => rfl
    | succ f' =>
      have h0 : (nd S p).ks = [] := h
      simp [orderF, h0]
  | f + 1, p, h, f', hf => by
    cases f' with
    | zero => omega
    | succ f' =>
      simp only [orderF]
      congr 1
      refine flatMap_congr' (fun x hx => ?_)
      exact order_deep (h x hx).2 f' (by omega)

theorem giv_none {S : List Nd} (h : WF S) {p : Nat} (hp : p < S.length) (hn : ∀ j r, Up S j p r → (nd S r).h = -1) : givT S S.length p = [] := by
  cases hg : givT S S.length p with
  | nil => rfl
  | cons c l =>
    obtain ⟨H, r, j, _, _, h3, h4, _⟩ := (giv_ok h).some p hp c (by rw [hg]; simp)
    have := hn j r h4
    omega

theorem show_plain {S : List Nd} (h : WF S) : ∀ {f p : Nat}, p < S.length → (∀ j r, Up S j p r → (nd S r).h = -1) → (∀ x ∈ orderF S f p, rootE S x = -1) → orderG (showF S (givT S S.length)) f p = orderF S f p
  | 0, _, _, _, _ => rfl
  | f + 1, p, hp, hn, hr => by
    have e : showF S (givT S S.length) p = (nd S p).ks := by
      unfold showF
      rw [if_neg (by simpa using hr (p : Int) (by simp [orderF])), giv_none h hp hn, if_neg (by simp)]
    simp only [orderG, orderF]
    rw [e]
    congr 1
    refine flatMap_congr' (fun x hx => ?_)
    obtain ⟨k, rfl, hk, _, _, hru⟩ := h.kid hp hx
    rw [Int.toNat_natCast]
    refine show_plain h hk (fun j r hu => ?_) (fun y hy => hr y ?_)
    · cases j with
      | zero =>
        have : k = r := hu
        subst this
        exact (h.host_of_parent hk (by have := (h.kid hp hx); obtain ⟨k', e', _, _, h4, _⟩ := this; have : k' = k := by omega
                                       subst this; omega)).1
      | succ j =>
        obtain ⟨q, _, e2, hu2⟩ := hu
        have : q = p := by omega
        subst this
        exact hn j r hu2
    · simp only [orderF, List.mem_cons, List.mem_flatMap]
      exact Or.inr ⟨(k : Int), hx, by rw [Int.toNat_natCast]; exact hy⟩

theorem flat_plain {S : List Nd} (h : WF S) {k : Nat} (hk : k < S.length) (hr : rootsL S k = []) (hh : ∀ i, i < S.length → ¬ (0 ≤ (nd S i).h ∧ (nd S i).h ∈ orderF S S.length k)) : flatF S k = orderF S S.length k := by
  have hf : S.length ≤ farF S := by
    unfold farF
    have : S.length + 2 < 3 ^ (S.length + 2) := Nat.lt_pow_self (by omega)
    omega
  have e := order_deep (h.deep_all hk) (farF S) hf
  unfold flatF
  rw [← e]
  refine show_plain h hk (fun j r hu => ?_) (fun x hx => ?_)
  · obtain ⟨pre, e2⟩ := h.path_suffix hk hu
    by_cases hne : (nd S r).h = -1
    · exact hne
    · have : (r : Int) ∈ rootsL S k := mem_rootsL.2 ⟨by rw [e2]; exact List.mem_append_right _ (path_head S r), by rw [Int.toNat_natCast]; exact hne⟩
      rw [hr] at this
      cases this
  · rw [e] at hx
    obtain ⟨q, rfl, hq, _⟩ := mem_order h hk (h.deep_all hk) x hx
    exact rootE_none (fun i hi e3 => hh i hi ⟨by omega, by rw [e3]; exact hx⟩)
end Go.Proofs.Ytlgnapdhnlhkpaa

namespace Go.Proofs.Ytlgnapdhnlhkpaa
open Go.RowKit

theorem tcheck_is_findS (S : List Nd) (p u : Int) : tcheckE S [(p, u)] = findE S p u := by
  unfold tcheckE findE handsE handsE
  by_cases h : holdsE S p u = 0
  · simp [h]
  · simp [h]

set_option maxRecDepth 100000 in
set_option maxHeartbeats 2000000 in
theorem slotNone_err (a : Option Addr) (c : Nat) (S : List Nd) (p u E : Int) (w : World) (hN : S.length ≤ 9223372036854775807) (hB : Big S) (hS : NdsAt w a S) (hE : findE S p u = E) (hE0 : E ≠ 0) :
    Calls Try.prog 5 #[.agg #[.slice a S.length c], .agg #[.int .i64 p, .int .i64 u]] w fun e w' => e = .returned (.bool true) ∧ Below w.heap.size w w' := by
  have D : Hid (∀ W, NdsAt W a S → Calls _ _ _ _ _) := fun W hW => flat_err a c S p u E W hN hB hW hE hE0
  have DO : Hid (∀ W, NdsAt W a S → Calls _ _ _ _ _) := fun W hW => order_err a c S p u E W hN hB hW ((tcheck_is_findS S p u).trans hE) hE0
  have DP : Hid PlacedOk := placed_ok
  have HS : Hid (NdsAt w a S) := hS
  have e1 : (E == 0) = false := beq_eq_false_iff_ne.2 hE0
  have e2 : decide (E = 0) = false := decide_eq_false hE0
  clear hS hE hB
  generalize S.length = n at *
  go_enter Try.func5, Try.ntmps5
  go_wp2_with fail
  refine Calls.mono (D.out _ (HS.out.below (two_belowS _ _ _))) ?_
  rintro e w1 ⟨rfl, hb⟩
  have l0 := keepC (alloc_cell1 w #[.slice a n c] 24 0 (.cells #[.int .i64 p, .int .i64 u] 26) rfl) hb
  have l1 := keepC (alloc_cell2 w #[.int .i64 p, .int .i64 u] 26 0 (.cells #[.slice a n c] 24) rfl) hb
  have l2 := keepC (alloc_cell2 w #[.int .i64 p, .int .i64 u] 26 1 (.cells #[.slice a n c] 24) rfl) hb
  have HB : Hid (Below w.heap.size w w1) := (two_belowS w _ _).trans (hb.mono (by simp; omega))
  clear hb
  go_wp2_with fail
  refine Calls.mono (DO.out _ (HS.out.below HB.out)) ?_
  rintro e w2 ⟨rfl, hb⟩
  have HB2 : Hid (Below w.heap.size w w2) := HB.out.trans (hb.mono HB.out.size)
  clear hb l0 l1 l2
  go_wp2_with fail
  refine Calls.mono (DP.out _) ?_
  rintro e w3 ⟨rfl, hb⟩
  have HB3 : Hid (Below w.heap.size w w3) := HB2.out.trans (hb.mono HB2.out.size)
  clear hb
  go_wp2_with fail
  refine Calls.mono (DP.out _) ?_
  rintro e w4 ⟨rfl, hb⟩
  have HB4 : Hid (Below w.heap.size w w4) := HB3.out.trans (hb.mono HB3.out.size)
  clear hb
  go_wp2_with fail
  go_ret
  exact ⟨rfl, HB4.out⟩

set_option maxRecDepth 100000 in
set_option maxHeartbeats 4000000 in
theorem slotNone_ok (a : Option Addr) (c : Nat) (S : List Nd) (k : Nat) (u : Int) (w : World) (wf : WF S) (hS : NdsAt w a S) (hk : k < S.length) (hE : findE S k u = 0) :
    Calls Try.prog 5 #[.agg #[.slice a S.length c], .agg #[.int .i64 (k : Int), .int .i64 u]] w fun e w' => e = .returned (.bool true) ∧ Below w.heap.size w w' := by
  have hN := wf.small
  have D : Hid (∀ W, NdsAt W a S → Calls _ _ _ _ _) := fun W hW => flat_ok a c S k u W wf hW hk hE
  have DO : Hid (∀ W, NdsAt W a S → Calls _ _ _ _ _) := fun W hW => order_ok a c S k S.length u W (by omega) wf.big hW ((tcheck_is_findS S k u).trans hE) hk (wf.deep_all hk) (by have := order_le wf hk; omega)
  have DR : Hid (∀ W, NdsAt W a S → Calls _ _ _ _ _) := fun W hW => rRoots_any a c S k W hN hk hW
  have DP : Hid PlacedOk := placed_ok
  have PLN : Hid (rootsL S k = [] → (∀ i, i < S.length → ¬ (0 ≤ (nd S i).h ∧ (nd S i).h ∈ orderF S S.length k)) → flatF S k = orderF S S.length k) := fun h1 h2 => flat_plain wf hk h1 h2
  have EQ : Hid (∀ a1 c1 a2 c2 W, IntsAt W a1 (flatF S k) → IntsAt W a2 (orderF S S.length k) → Calls _ _ _ _ _) := fun a1 c1 a2 c2 W h1 h2 => equal_any a1 a2 c1 c2 (flatF S k) (orderF S S.length k) W (by have := flatF_le wf hk; omega) h1 h2
  have CT : Hid (∀ a2 c2 (x : Int) W, IntsAt W a2 (orderF S S.length k) → Calls _ _ _ _ _) := fun a2 c2 x W h2 => contains_any a2 c2 (orderF S S.length k) x W (by have := order_le wf hk; omega) h2
  have HS : Hid (NdsAt w a S) := hS
  have RL : Hid ((rootsL S k).length = 0 → rootsL S k = []) := fun h => List.eq_nil_of_length_eq_zero h
  clear hS hE wf
  generalize flatF S k = F at *
  generalize orderF S S.length k = P at *
  generalize rootsL S k = R at *
  obtain ⟨fl, hfl⟩ : ∃ z, F.length = z := ⟨_, rfl⟩
  rw [hfl] at D EQ
  obtain ⟨pl, hpl⟩ : ∃ z, P.length = z := ⟨_, rfl⟩
  rw [hpl] at DO EQ CT
  obtain ⟨n, hn⟩ : ∃ n, S.length = n := ⟨_, rfl⟩
  have HN : Hid (S.length = n) := hn
  rw [hn] at hN hk D DO DR PLN ⊢
  clear hfl hpl hn
  go_enter Try.func5, Try.ntmps5
  go_wp2_with fail
  refine Calls.mono (D.out _ (HS.out.below (two_belowS _ _ _))) ?_
  rintro e w1 ⟨sa, sc, rfl, hb, hI⟩
  have l0 := keepC (alloc_cell1 w #[.slice a n c] 24 0 (.cells #[.int .i64 (k : Int), .int .i64 u] 26) rfl) hb
  have l1 := keepC (alloc_cell2 w #[.int .i64 (k : Int), .int .i64 u] 26 0 (.cells #[.slice a n c] 24) rfl) hb
  have l2 := keepC (alloc_cell2 w #[.int .i64 (k : Int), .int .i64 u] 26 1 (.cells #[.slice a n c] 24) rfl) hb
  have HB : Hid (Below w.heap.size w w1) := (two_belowS w _ _).trans (hb.mono (by simp; omega))
  have HF1 : Hid (IntsAt w1 sa F) := hI
  clear hb hI D
  go_wp2_with fail
  refine Calls.mono (DO.out _ (HS.out.below HB.out)) ?_
  rintro e w2 ⟨ta, tc, rfl, hb, hI, _, _⟩
  have HB2 : Hid (Below w.heap.size w w2) := HB.out.trans (hb.mono HB.out.size)
  have HF2 : Hid (IntsAt w2 sa F) := HF1.out.below hb
  have HP2 : Hid (IntsAt w2 ta P) := hI
  have m0 := keepC l0 hb
  have m1 := keepC l1 hb
  clear hb hI l0 l1 l2 DO HF1
  go_wp2_with fail
  refine Calls.mono (DP.out _) ?_
  rintro e w3 ⟨rfl, hb⟩
  have HB3 : Hid (Below w.heap.size w w3) := HB2.out.trans (hb.mono HB2.out.size)
  have HF3 : Hid (IntsAt w3 sa F) := HF2.out.below hb
  have HP3 : Hid (IntsAt w3 ta P) := HP2.out.below hb
  have l0 := keepC m0 hb
  have l1 := keepC m1 hb
  clear hb m0 m1 HF2 HP2 DP
  go_wp2_with fail
  go_loopg [37] n (fun g s37 wr => ∃ i : Nat, i ≤ n ∧ n - i ≤ g ∧ s37 = .int .i64 i ∧ Hid (Below w3.heap.size w3 wr) ∧ wr.cell? ⟨w.heap.size, 0, none⟩ = some (.slice a n c) ∧ wr.cell? ⟨w.heap.size + 1, 0, none⟩ = some (.int .i64 (k : Int)) ∧ Hid (∀ j, j < i → ¬ (0 ≤ (nd S j).h ∧ (nd S j).h ∈ P)))
  case atStart => exact ⟨0, by omega, by omega, rfl, Below.refl _ _, l0, l1, fun j hj => absurd hj (Nat.not_lt_zero _)⟩
  case round =>
    obtain ⟨i, hi, hg, rfl, HB4, m0, m1, NF⟩ := hrel
    clear l0 l1
    have HBW : Hid (Below w.heap.size w wr) := HB3.out.trans (HB4.out.mono HB3.out.size)
    have q0 := World.block_lt_of_cell? _ _ m0
    have q1 := World.block_lt_of_cell? _ _ m1
    by_cases hlt : i < n
    · have hlt2 : (i : Int) < (n : Int) := by omega
      obtain ⟨b, o, ea, c0, c1, c2, c3, c4, ⟨ka, kc, c5, _⟩, c6, c7⟩ := (HS.out.below HBW.out) i (by rw [HN.out]; exact hlt)
      subst ea
      have NX : Hid (¬ (0 ≤ (nd S i).h ∧ (nd S i).h ∈ P) → ∀ j, j < i + 1 → ¬ (0 ≤ (nd S j).h ∧ (nd S j).h ∈ P)) := fun h j hj => by
        by_cases e : j = i
        · subst e; exact h
        · exact NF.out j (by omega)
      have HP4 : Hid (IntsAt wr ta P) := HP3.out.below HB4.out
      clear NF
      generalize nd S i = x at *
      obtain ⟨xu, xn, xt, xm, xp, xks, xh, xc⟩ := x
      dsimp only at c0 c1 c2 c3 c4 c5 c6 c7 NX
      generalize xks.length = xl at *
      by_cases hh : 0 ≤ xh
      · have hd : decide ((0 : Int) ≤ xh) = true := decide_eq_true hh
        go_wp2_with fail
        refine Calls.mono (CT.out ta tc xh _ (HP4.out.below (one_belowS _ _))) ?_
        rintro e w4 ⟨rfl, hw4⟩
        subst hw4
        by_cases hin : xh ∈ P
        · rw [decide_eq_true hin]
          clear NX
          go_wp2_with fail
          go_ret
          exact ⟨rfl, HBW.out.trans ((one_belowS _ _).mono HBW.out.size)⟩
        · rw [decide_eq_false hin]
          have NX2 : Hid (∀ j, j < i + 1 → ¬ (0 ≤ (nd S j).h ∧ (nd S j).h ∈ P)) := NX.out (fun h => hin h.2)
          clear NX hin
          go_wp2_with fail
          go_roundg (n - (i + 1))
          case measure => omega
          case rel => exact ⟨i + 1, by omega, by omega, by go_num, HB4.out.trans ((one_belowS _ _).mono HB4.out.size), keepC m0 (one_belowS _ _), keepC m1 (one_belowS _ _), NX2⟩
      · have hd : decide ((0 : Int) ≤ xh) = false := decide_eq_false hh
        have NX2 : Hid (∀ j, j < i + 1 → ¬ (0 ≤ (nd S j).h ∧ (nd S j).h ∈ P)) := NX.out (fun h => hh h.1)
        clear NX
        go_wp2_with fail
        go_roundg (n - (i + 1))
        case measure => omega
        case rel => exact ⟨i + 1, by omega, by omega, by go_num, HB4.out.trans ((one_belowS _ _).mono HB4.out.size), keepC m0 (one_belowS _ _), keepC m1 (one_belowS _ _), NX2⟩
    · have hie : i = n := by omega
      subst hie
      have HF4 : Hid (IntsAt wr sa F) := HF3.out.below HB4.out
      have HP4 : Hid (IntsAt wr ta P) := HP3.out.below HB4.out
      have PL2 : Hid (R = [] → F = P) := fun h => PLN.out h NF.out
      clear NF PLN
      go_wp2_with fail
      refine Calls.mono (DR.out _ (HS.out.below HBW.out)) ?_
      rintro e w4 ⟨v, rfl, hb, hown⟩
      obtain ⟨ra, rc, hv, _⟩ := own_slice hown
      subst hv
      have HB5 : Hid (Below w.heap.size w w4) := HBW.out.trans (hb.mono HBW.out.size)
      have HF5 : Hid (IntsAt w4 sa F) := HF4.out.below hb
      have HP5 : Hid (IntsAt w4 ta P) := HP4.out.below hb
      clear hb hown m0 m1 HF4 HP4
      obtain ⟨rl, hrl⟩ : ∃ z, R.length = z := ⟨_, rfl⟩
      rw [hrl] at RL ⊢
      clear hrl
      by_cases hr : 0 < rl
      · have hd : decide ((0 : Int) < (rl : Int)) = true := decide_eq_true (by omega)
        have hr2 : (0 : Int) < (rl : Int) := by omega
        go_wp2_with fail
        go_ret
        exact ⟨rfl, HB5.out⟩
      · have h0 : rl = 0 := by omega
        subst h0
        have hFP := PL2.out (RL.out rfl)
        have eq := EQ.out sa sc ta tc w4 HF5.out HP5.out
        rw [decide_eq_true hFP] at eq
        have EQ2 : Hid _ := eq
        clear hFP eq EQ
        go_wp2_with fail
        refine Calls.mono EQ2.out ?_
        rintro e w5 ⟨rfl, hb⟩
        have HB6 : Hid (Below w.heap.size w w5) := HB5.out.trans (hb.mono HB5.out.size)
        clear hb
        go_wp2_with fail
        go_ret
        exact ⟨rfl, HB6.out⟩

theorem slotNone_any (a : Option Addr) (c : Nat) (S : List Nd) (p u : Int) (w : World) (hN : S.length ≤ 9223372036854775807) (hB : Big S) (hS : NdsAt w a S) :
    Calls Try.prog 5 #[.agg #[.slice a S.length c], .agg #[.int .i64 p, .int .i64 u]] w fun e w' => e = .returned (.bool true) ∧ Below w.heap.size w w' := by
  by_cases hE : findE S p u = 0
  · obtain ⟨wf, k, rfl, hk, _⟩ := tcheck_one ((tcheck_is_findS S p u).trans hE)
    exact slotNone_ok a c S k u w wf hS hk hE
  · exact slotNone_err a c S p u _ w hN hB hS rfl hE
end Go.Proofs.Ytlgnapdhnlhkpaa
