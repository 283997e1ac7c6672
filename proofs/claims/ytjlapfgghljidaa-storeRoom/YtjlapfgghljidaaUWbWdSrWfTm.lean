/-
  leave, of a node with or without a Parent; a store of the call's own that stays while other blocks turn.
-/
import Derived.Test.YtjlapfgghljidaaUTjUaUb
import Derived.Test.YtjlapfgghljidaaUTk
import Derived.Test.YtjlapfgghljidaaUTbTcTfSn
import Derived.Test.YtjlapfgghljidaaUTdTeSo
import Derived.Test.YtjlapfgghljidaaUSmBoSpLay
import Derived.BigQuiet
import Derived.Test.YtjlapfgghljidaaUWa
import Derived.Test.YtjlapfgghljidaaUTl
namespace Go.Proofs.Ytjlapfgghljidaa
open Go.RowKit

/-- The store in which ch has left its Parent's children, if it had one. -/
def leaveG (S : List Nd) (ch : Nat) : List Nd := if (nd S ch).p = -1 then S else leaveS S (nd S ch).p.toNat ch

theorem leaveG_length (S : List Nd) (ch : Nat) : (leaveG S ch).length = S.length := by
  unfold leaveG
  split
  · rfl
  · exact leaveS_length _ _ _

theorem Own.up {w : World} {B g : Nat} {S : List Nd} {kb kc : Nat → Nat} (h : Own w B g S kb kc S.length) (w3 : World) (hup : ∀ b, g ≤ b → w3.heap[b]? = w.heap[b]?) : NdsAt w3 (some ⟨g, 0, none⟩) S := by
  obtain ⟨hB, F, hF, hN, hg, hd⟩ := h
  refine Own.nds (B := B) (kb := kb) (kc := kc) ⟨hB, F, hF.of_block (hup g (Nat.le_refl _)), fun i hi => ?_, hg, hd⟩
  obtain ⟨e0, e1, e2, e3, e4, e5, e6, e7, e8, e8b, G, hG, e9⟩ := hN i hi
  exact ⟨e0, e1, e2, e3, e4, e5, e6, e7, e8, e8b, G, hG.of_block (hup (kb i) (Nat.le_of_lt (hg i hi))), e9⟩

/-- The blocks of a store of the call's own. -/
def OwnX (g n : Nat) (kb : Nat → Nat) : Nat → Prop := fun b => b = g ∨ ∃ i, i < n ∧ b = kb i

theorem leave_gen (B g c : Nat) (S : List Nd) (kb kc : Nat → Nat) (ch : Nat) (w : World) (hO : Own w B g S kb kc S.length) (hch : ch < S.length) (hp : (nd S ch).p = -1 ∨ ∃ pa : Nat, pa < S.length ∧ pa ≠ ch ∧ (nd S ch).p = pa) :
    Calls Try.prog 61 #[.slice (some ⟨g, 0, none⟩) S.length c, .int .i64 ch] w fun e w' => e = .returned (.tuple #[]) ∧ Off (OwnX g S.length kb) w w' ∧ Own w' B g (leaveG S ch) kb kc (leaveG S ch).length := by
  rcases hp with hp | ⟨pa, hpa, hne, hp⟩
  · have hc : w.cell? ⟨g, ch * 8 + 4, none⟩ = some (.int .i64 (-1)) := by
      obtain ⟨_, F, hF, hN, _, _⟩ := hO
      obtain ⟨_, _, _, _, e4, _⟩ := hN ch hch
      rw [hF.cell (by omega), e4, hp]
    refine (leave_none g c S.length ch w hch hc).mono ?_
    rintro e w' ⟨he, hb⟩
    refine ⟨he, Off.of_below hb, ?_⟩
    unfold leaveG
    rw [if_pos hp]
    exact hO.below hb
  · refine (leave_any B g c S kb kc pa ch w hO hpa hch hne hp).mono ?_
    rintro e w' ⟨he, hoff, hO'⟩
    refine ⟨he, hoff.mono (fun k _ hk => ?_), ?_⟩
    · rcases hk with hk | hk
      · exact Or.inl hk
      · exact Or.inr ⟨pa, hpa, hk⟩
    · unfold leaveG
      rw [if_neg (by omega), hp, Int.toNat_natCast]
      exact hO'
end Go.Proofs.Ytjlapfgghljidaa

namespace Go.Proofs.Ytjlapfgghljidaa
open Go.RowKit

theorem find_low {w w1 : World} {v : Value} {x y : Int} (hb : Below (w.heap.size + 1 + 1 + 1) (((w.alloc (.cells #[v] 24)).alloc (.cells #[.int .i64 x, .int .i64 y] 26)).alloc (.cells #[.bool false, .int .i64 0, .int .i64 0, .int .i64 0, .int .i64 0, .slice none 0 0, .int .i64 0, .bool false] 35)) w1) :
    (w1.cell? ⟨w.heap.size, 0, none⟩ = some v ∧ w1.cell? ⟨w.heap.size + 1, 0, none⟩ = some (.int .i64 x) ∧ w1.cell? ⟨w.heap.size + 1, 1, none⟩ = some (.int .i64 y)) ∧
    (w1.cell? ⟨w.heap.size + 1 + 1, 0, none⟩ = some (.bool false) ∧ w1.cell? ⟨w.heap.size + 1 + 1, 1, none⟩ = some (.int .i64 0) ∧ w1.cell? ⟨w.heap.size + 1 + 1, 2, none⟩ = some (.int .i64 0) ∧ w1.cell? ⟨w.heap.size + 1 + 1, 3, none⟩ = some (.int .i64 0) ∧ w1.cell? ⟨w.heap.size + 1 + 1, 4, none⟩ = some (.int .i64 0) ∧ w1.cell? ⟨w.heap.size + 1 + 1, 5, none⟩ = some (.slice none 0 0) ∧ w1.cell? ⟨w.heap.size + 1 + 1, 6, none⟩ = some (.int .i64 0) ∧ w1.cell? ⟨w.heap.size + 1 + 1, 7, none⟩ = some (.bool false)) ∧
    (∀ o, w1.frozen? ⟨w.heap.size + 1 + 1, o, none⟩ = false) ∧ Below w.heap.size w w1 := by
  refine ⟨⟨?_, ?_, ?_⟩, ⟨?_, ?_, ?_, ?_, ?_, ?_, ?_, ?_⟩, fun o => ?_, (three_below _ _ _ _).trans (hb.mono (by omega))⟩
  all_goals first | exact (hb.cell (by first | (simp; done) | (simp; omega))).trans (by go_simp) | exact (hb.frozen (by first | (simp; done) | (simp; omega))).trans (by go_simp)

/-- What Find says is wrong. -/
def findE (S : List Nd) (p u : Int) : Int := if checkE S = 0 then holdsE S p u else checkE S

theorem find_zero {S : List Nd} {p u : Int} (h : WF S) (hh : holdsE S p u = 0) : findE S p u = 0 := by
  rw [findE, if_pos ((wf_iff S).mpr h)]
  exact hh
theorem find_parts {S : List Nd} {p u : Int} (h : findE S p u = 0) : checkE S = 0 ∧ holdsE S p u = 0 := by
  unfold findE at h
  by_cases hc : checkE S = 0
  · rw [if_pos hc] at h
    exact ⟨hc, h⟩
  · rw [if_neg hc] at h
    exact absurd h hc

set_option maxHeartbeats 1000000 in
theorem find_err (a : Option Addr) (c : Nat) (S : List Nd) (p u E : Int) (w : World) (hN : S.length ≤ 9223372036854775807) (hB : Big S) (hS : NdsAt w a S) (hE : findE S p u = E) (hE0 : E ≠ 0) :
    Calls Try.prog 12 #[.agg #[.slice a S.length c], .agg #[.int .i64 p, .int .i64 u]] w fun e w' => e = .returned (.tuple #[.agg #[.bool false, .int .i64 0, .int .i64 0, .int .i64 0, .int .i64 0, .slice none 0 0, .int .i64 0, .bool false], .int .i64 E]) ∧ Below w.heap.size w w' := by
  have d0 := fun W hW => check_any a c S W hN hB hW
  have d1 := fun W hW => holds_any a c S p u W hN hW
  have HS : Hid (NdsAt w a S) := hS
  have hz : (E == 0) = false := by simp [hE0]
  unfold findE at hE
  by_cases hc : checkE S = 0
  · rw [if_pos hc] at hE
    rw [hE] at d1
    rw [hc] at d0
    have D0 : Hid _ := d0
    have D1 : Hid _ := d1
    clear hS d0 d1 hE hB hc
    generalize S.length = n at *
    go_enter Try.func12, Try.ntmps12
    go_wp2_with (go_at_call 18; refine (D0.out _ (HS.out.below (three_below _ _ _ _))).mono ?_; rintro e w1 ⟨rfl, hb1⟩; simp only [World.size_alloc] at hb1; obtain ⟨⟨l0, l1, l2⟩, ⟨z0, z1, z2, z3, z4, z5, z6, z7⟩, hz', hbo⟩ := find_low hb1)
    refine (D1.out _ (HS.out.below hbo)).mono ?_
    rintro e w2 ⟨rfl, hb2⟩
    have hs1 := hb1.size
    simp only [World.size_alloc] at hs1
    have hb12 := hb1.trans (hb2.mono hs1)
    clear l0 l1 l2 z0 z1 z2 z3 z4 z5 z6 z7 hz' hbo hb1 hb2
    obtain ⟨⟨l0, l1, l2⟩, ⟨z0, z1, z2, z3, z4, z5, z6, z7⟩, hz', hbo⟩ := find_low hb12
    go_wp2
    refine bodyPost_ret (v := .tuple #[.agg #[.bool false, .int .i64 0, .int .i64 0, .int .i64 0, .int .i64 0, .slice none 0 0, .int .i64 0, .bool false], .int .i64 E]) (by simp [results, Try.results12, go_sem, z0, z1, z2, z3, z4, z5, z6, z7]) rfl ⟨rfl, ?_⟩
    exact (((((((hbo.setCell (by simp; omega) _).setCell (by simp; omega) _).setCell (by simp; omega) _).setCell (by simp; omega) _).setCell (by simp; omega) _).setCell (by simp; omega) _).setCell (by simp; omega) _).setCell (by simp; omega) _
  · rw [if_neg hc] at hE
    rw [hE] at d0
    have D0 : Hid _ := d0
    clear hS d0 d1 hE hB hc
    generalize S.length = n at *
    go_enter Try.func12, Try.ntmps12
    go_wp2_with (go_at_call 18; refine (D0.out _ (HS.out.below (three_below _ _ _ _))).mono ?_; rintro e w1 ⟨rfl, hb1⟩; simp only [World.size_alloc] at hb1; obtain ⟨⟨l0, l1, l2⟩, ⟨z0, z1, z2, z3, z4, z5, z6, z7⟩, hz', hbo⟩ := find_low hb1)
    refine bodyPost_ret (v := .tuple #[.agg #[.bool false, .int .i64 0, .int .i64 0, .int .i64 0, .int .i64 0, .slice none 0 0, .int .i64 0, .bool false], .int .i64 E]) (by simp [results, Try.results12, go_sem, z0, z1, z2, z3, z4, z5, z6, z7]) rfl ⟨rfl, ?_⟩
    exact (((((((hbo.setCell (by simp; omega) _).setCell (by simp; omega) _).setCell (by simp; omega) _).setCell (by simp; omega) _).setCell (by simp; omega) _).setCell (by simp; omega) _).setCell (by simp; omega) _).setCell (by simp; omega) _

set_option maxHeartbeats 1000000 in
theorem find_ok (a : Option Addr) (c : Nat) (S : List Nd) (k : Nat) (u : Int) (w : World) (hN : S.length ≤ 9223372036854775807) (hB : Big S) (hS : NdsAt w a S) (hk : k < S.length) (hE : findE S k u = 0) (hK : (nd S k).ks.length ≤ 1000000) :
    Calls Try.prog 12 #[.agg #[.slice a S.length c], .agg #[.int .i64 k, .int .i64 u]] w fun e w' => ∃ g, e = .returned (.tuple #[.agg #[.bool (nd S k).u, .int .i64 (nd S k).n, .int .i64 (nd S k).t, .int .i64 (nd S k).m, .int .i64 (nd S k).p, .slice (some ⟨g, 0, none⟩) (nd S k).ks.length (nd S k).ks.length, .int .i64 (nd S k).h, .bool (nd S k).c], .int .i64 0]) ∧ Below w.heap.size w w' ∧ IntsAt w' (some ⟨g, 0, none⟩) (nd S k).ks := by
  have d1 := fun W hW => holds_any a c S k u W hN hW
  rw [(find_parts hE).2] at d1
  have D1 : Hid _ := d1
  have d0 := fun W hW => check_any a c S W hN hB hW
  rw [(find_parts hE).1] at d0
  have D0 : Hid _ := d0
  have HS : Hid (NdsAt w a S) := hS
  have d2 := fun ka kc W hW => copyNode_any (nd S k) ka kc W hK hW
  have D2 : Hid _ := d2
  have NX : Hid (∀ w1, Below w.heap.size w w1 → ∃ b o, a = some ⟨b, o, none⟩ ∧ NdAt w1 b (o + k * 8) (nd S k)) := fun w1 h1 => (hS.below h1) k hk
  have hk2 : (k : Int) < (S.length : Int) := by omega
  have IR : Hid (∀ (W : World) g, W.rowIs g 3 (nd S k).ks.length (fun j => .int .i64 ((nd S k).ks.getD j 0)) → IntsAt W (some ⟨g, 0, none⟩) (nd S k).ks) := fun W g h => ints_of_row h (Nat.le_refl _) (fun _ _ => rfl)
  clear hS d0 d1 d2 hE hK hB
  generalize nd S k = x at *
  obtain ⟨xu, xn, xt, xm, xp, xks, xh, xc⟩ := x
  unfold NdAt at NX
  dsimp only at *
  generalize hL : xks.length = L at *
  have HL : Hid _ := hL
  clear hL
  generalize S.length = n at *
  go_enter Try.func12, Try.ntmps12
  go_wp2_with (go_at_call 18; refine (D0.out _ (HS.out.below (three_below _ _ _ _))).mono ?_; rintro e w0 ⟨rfl, hb0⟩; simp only [World.size_alloc] at hb0; obtain ⟨⟨l0, l1, l2⟩, ⟨z0, z1, z2, z3, z4, z5, z6, z7⟩, hz', hbo0⟩ := find_low hb0)
  refine (D1.out _ (HS.out.below hbo0)).mono ?_
  rintro e w1 ⟨rfl, hb1'⟩
  have hs0 := hb0.size
  simp only [World.size_alloc] at hs0
  have hb1 := hb0.trans (hb1'.mono hs0)
  clear l0 l1 l2 z0 z1 z2 z3 z4 z5 z6 z7 hz' hbo0 hb0 hb1'
  obtain ⟨⟨l0, l1, l2⟩, ⟨z0, z1, z2, z3, z4, z5, z6, z7⟩, hz', hbo⟩ := find_low hb1
  obtain ⟨b, o, rfl, c0, c1, c2, c3, c4, ⟨ka, kc, c5, hks⟩, c6, c7⟩ := NX.out _ hbo
  have HKS : Hid _ := hks
  have HB1 : Hid _ := hb1
  clear hks hb1 hbo
  go_wp2_with fail
  refine (D2.out ka kc _ HKS.out).mono ?_
  rintro e w2 ⟨g, rfl, hb2, hg, hrow⟩
  have hs1 := HB1.out.size
  simp only [World.size_alloc] at hs1
  have hb12 := HB1.out.trans (hb2.mono hs1)
  clear l0 l1 l2 z0 z1 z2 z3 z4 z5 z6 z7 hz' c0 c1 c2 c3 c4 c5 c6 c7
  obtain ⟨⟨l0, l1, l2⟩, ⟨z0, z1, z2, z3, z4, z5, z6, z7⟩, hz', hbo⟩ := find_low hb12
  have HBO : Hid _ := hbo
  have HR : Hid (w2.rowIs g 3 L (fun j => .int .i64 (xks.getD j 0))) := hrow
  clear hb2 hb12 hbo hrow
  go_wp2
  refine bodyPost_ret (v := .tuple #[.agg #[.bool xu, .int .i64 xn, .int .i64 xt, .int .i64 xm, .int .i64 xp, .slice (some ⟨g, 0, none⟩) L L, .int .i64 xh, .bool xc], .int .i64 0]) (by simp [results, Try.results12, go_sem, z0, z1, z2, z3, z4, z5, z6, z7]) rfl ⟨g, rfl, ?_, ?_⟩
  · exact (((((((HBO.out.setCell (by simp; omega) _).setCell (by simp; omega) _).setCell (by simp; omega) _).setCell (by simp; omega) _).setCell (by simp; omega) _).setCell (by simp; omega) _).setCell (by simp; omega) _).setCell (by simp; omega) _
  · refine IR.out _ g ?_
    exact (((((((HR.out.setOther (by simp; omega) _).setOther (by simp; omega) _).setOther (by simp; omega) _).setOther (by simp; omega) _).setOther (by simp; omega) _).setOther (by simp; omega) _).setOther (by simp; omega) _).setOther (by simp; omega) _

end Go.Proofs.Ytjlapfgghljidaa

namespace Go.Proofs.Ytjlapfgghljidaa
open Go.RowKit

/-- What the law asks of the order, without the program. -/
structure OrderFacts (S : List Nd) (k : Nat) (l : List Int) : Prop where
  pos : 0 < l.length
  small : l.length ≤ 24
  head : l.getD 0 0 = k
  each : ∀ i, i < l.length → ∃ q : Nat, l.getD i 0 = q ∧ q < S.length ∧ (nd S q).u = true ∧ (q : Int) ∉ l.take i ∧ (0 < i → (nd S q).p ∈ l.take i)
  closed : ∀ q : Nat, q < S.length → 0 ≤ (nd S q).p → q ≠ k → decide ((nd S q).p ∈ l) = decide ((q : Int) ∈ l)

theorem hands_single (S : List Nd) (p u : Int) : handsE S [(p, u)] = holdsE S p u := by
  simp only [handsE]
  by_cases h : holdsE S p u = 0
  · rw [if_pos h, h]
  · rw [if_neg h]

theorem holds_zero {S : List Nd} {p u : Int} (h : holdsE S p u = 0) : ∃ k : Nat, p = k ∧ k < S.length ∧ (nd S k).u = true ∧ (nd S k).n = u := by
  unfold holdsE at h
  by_cases hp : isPl S.length p = true
  · rw [if_pos hp] at h
    have hp' : 0 ≤ p ∧ p ≤ (S.length : Int) - 1 := of_decide_eq_true hp
    obtain ⟨k, rfl⟩ : ∃ k : Nat, p = (k : Int) := ⟨p.toNat, by omega⟩
    rw [Int.toNat_natCast] at h
    refine ⟨k, rfl, by omega, ?_⟩
    unfold holdX at h
    split at h
    · split at h
      · split at h
        · exact ⟨by assumption, by assumption⟩
        · omega
      · omega
    · omega
  · rw [if_neg hp] at h
    omega

theorem tcheck_one {S : List Nd} {p u : Int} (h : tcheckE S [(p, u)] = 0) : WF S ∧ ∃ k : Nat, p = k ∧ k < S.length ∧ (nd S k).u = true ∧ (nd S k).n = u := by
  unfold tcheckE at h
  by_cases hc : checkE S = 0
  · rw [if_pos hc, hands_single] at h
    exact ⟨(wf_iff S).1 hc, holds_zero h⟩
  · rw [if_neg hc] at h
    exact absurd h hc

theorem orderFacts {S : List Nd} (h : WF S) {k : Nat} (hk : k < S.length) (hu : (nd S k).u = true) : OrderFacts S k (orderS S k) := by
  have hD := h.deep_all hk
  have hn := nodup_order h hk (Nat.le_refl _) hD
  have hl := order_le h hk
  obtain ⟨r, hr, hP⟩ := par_root h hk hD
  have hmem : ∀ x ∈ orderS S k, ∃ q : Nat, x = q ∧ q < S.length ∧ (nd S q).u = true := fun x hx => by
    obtain ⟨q, e, hq, hu', _⟩ := mem_order h hk hD x hx
    refine ⟨q, e, hq, ?_⟩
    rcases hu' with rfl | hu'
    · exact hu
    · exact hu'
  have hpar : ∀ i, i < (orderS S k).length → 0 < i → (nd S ((orderS S k).getD i 0).toNat).p ∈ (orderS S k).take i := fun i hi h0 => by
    unfold orderS at hi ⊢
    rw [hr] at hi ⊢
    obtain ⟨i, rfl⟩ : ∃ j, i = j + 1 := ⟨i - 1, by omega⟩
    have := hP.get (i := i) (by simpa using hi)
    simpa using this
  refine ⟨by unfold orderS; rw [hr]; simp, by unfold orderS; have := h.small; omega, by unfold orderS; rw [hr]; simp, fun i hi => ?_, fun q hq hp hne => ?_⟩
  · obtain ⟨q, e, hq, hu'⟩ := hmem ((orderS S k).getD i 0) (by rw [getD_elem _ 0 hi]; exact List.getElem_mem hi)
    refine ⟨q, e, hq, hu', fun hm => ?_, fun h0 => ?_⟩
    · obtain ⟨j, hj, ej⟩ := List.getElem_of_mem hm
      rw [List.length_take] at hj
      rw [List.getElem_take] at ej
      rw [getD_elem _ 0 hi] at e
      have hjl : j < (orderS S k).length := by omega
      have := (List.getElem?_inj (i := j) (j := i) hjl hn).1 (by show (orderS S k)[j]? = (orderS S k)[i]?; rw [List.getElem?_eq_getElem (by omega), List.getElem?_eq_getElem hi]; exact congrArg some (ej.trans e.symm))
      omega
    · have := hpar i hi h0
      rwa [e, Int.toNat_natCast] at this
  · obtain ⟨y, hy⟩ : ∃ y : Nat, (nd S q).p = (y : Int) := ⟨(nd S q).p.toNat, by omega⟩
    rw [hy]
    by_cases hm : (y : Int) ∈ orderS S k
    · have := kid_in h hk hD (y : Int) hm (q : Int) (by rw [Int.toNat_natCast]; exact (h.in_kids hq hy).2)
      rw [decide_eq_true hm, decide_eq_true (show (q : Int) ∈ orderS S k from this)]
    · have : (q : Int) ∉ orderS S k := fun hq' => by
        obtain ⟨i, hi, ei⟩ := List.getElem_of_mem hq'
        have h0 : 0 < i := by
          rcases Nat.eq_zero_or_pos i with rfl | h0
          · exfalso
            have : (orderS S k).getD 0 0 = (k : Int) := by unfold orderS; rw [hr]; simp
            rw [getD_elem _ 0 hi, ei] at this
            omega
          · exact h0
        have := hpar i hi h0
        rw [getD_elem _ 0 hi, ei, Int.toNat_natCast, hy] at this
        exact hm (List.mem_of_mem_take this)
      rw [decide_eq_false hm, decide_eq_false this]

end Go.Proofs.Ytjlapfgghljidaa

namespace Go.Proofs.Ytjlapfgghljidaa
open Go.RowKit

theorem WF.ringless {S : List Nd} (h : WF S) {x j : Nat} (hx : x < S.length) (h1 : 1 ≤ j) : ¬ Up S j x x := fun hu =>
  h.no_ring hx h1 (by have := h.up_short hx hu; omega) hu

theorem WF.leaveG {S : List Nd} (h : WF S) {ch : Nat} (hch : ch < S.length) : WF (leaveG S ch) := by
  unfold Go.Proofs.Ytjlapfgghljidaa.leaveG
  split
  · exact h
  · rename_i hp
    obtain ⟨pa, e, _⟩ := h.parent_place hch hp
    rw [e, Int.toNat_natCast]
    exact h.leave hch e

theorem leaveG_u (S : List Nd) (ch j : Nat) : (nd (leaveG S ch) j).u = (nd S j).u ∧ (nd (leaveG S ch) j).n = (nd S j).n ∧ (nd (leaveG S ch) j).h = (nd S j).h ∧ (nd (leaveG S ch) j).t = (nd S j).t ∧ (nd (leaveG S ch) j).m = (nd S j).m ∧ (nd (leaveG S ch) j).c = (nd S j).c := by
  unfold leaveG
  split
  · exact ⟨rfl, rfl, rfl, rfl, rfl, rfl⟩
  · exact leave_u S _ ch j

theorem leaveG_p (S : List Nd) {ch j : Nat} (hj : j < S.length) : (nd (leaveG S ch) j).p = if j = ch then -1 else (nd S j).p := by
  unfold leaveG
  split
  · rename_i h
    split
    · rename_i e; rw [e]; exact h
    · rfl
  · exact leave_p S hj

theorem leaveG_ks {S : List Nd} (h : WF S) {ch j : Nat} (hch : ch < S.length) (hj : j < S.length) (hne : (nd S ch).p ≠ j) : (nd (leaveG S ch) j).ks = (nd S j).ks := by
  unfold leaveG
  split
  · rfl
  · rename_i hp
    obtain ⟨pa, e, _, hpc, _⟩ := h.parent_place hch hp
    rw [e, Int.toNat_natCast, leave_ks S hpc hj, if_neg (by omega)]

theorem leaveG_under {S : List Nd} {pa ch : Nat} (hpa : pa < S.length) (hu : underB S pa ch = false) : underB (leaveG S ch) pa ch = false := by
  cases hb : underB (leaveG S ch) pa ch with
  | false => rfl
  | true =>
    have hl := leaveG_length S ch
    obtain ⟨j, j1, j2, j3⟩ := under_up (by rw [hl]; exact hpa) hb
    rw [hl] at j2
    have : Up S j pa ch := up_same hl (fun y hy z hz => by
      unfold rightUnder at *
      rw [(leaveG_u S ch y).2.2.1, leaveG_p S hy] at hz
      by_cases e1 : y = ch
      · subst e1
        rw [if_pos rfl] at hz
        by_cases hh : (nd S y).h = -1
        · rw [if_pos hh] at hz
          omega
        · rw [if_neg hh] at hz ⊢
          exact hz
      · rw [if_neg e1] at hz
        exact hz) hpa j3
    rw [up_under hpa j1 j2 this] at hu
    cases hu

theorem fits_parts {S : List Nd} {ch pa : Nat} (h : fitsB S ch pa = true) : (nd S ch).h = -1 ∧ pa ≠ ch ∧ underB S pa ch = false := by
  unfold fitsB at h
  simp only [Bool.and_eq_true, Bool.not_eq_true', decide_eq_true_eq, decide_eq_false_iff_not] at h
  exact ⟨h.1, fun e => h.2.1 (by rw [e]), h.2.2⟩

structure Puts (S : List Nd) (pa ch : Nat) : Prop where
  wf : WF S
  hpa : pa < S.length
  hch : ch < S.length
  hpu : (nd S pa).u = true
  hcu : (nd S ch).u = true
  fits : fitsB S ch pa = true

theorem Puts.insert {S : List Nd} {pa ch : Nat} (h : Puts S pa ch) (at' : Nat) : WF (enterS (leaveG S ch) pa ch at') := by
  obtain ⟨f1, f2, f3⟩ := fits_parts h.fits
  have hl := leaveG_length S ch
  refine (h.wf.leaveG h.hch).enter (by rw [hl]; exact h.hpa) (by rw [hl]; exact h.hch) ?_ ?_ ?_ ?_ f2 (leaveG_under h.hpa f3)
  · rw [(leaveG_u S ch pa).1]; exact h.hpu
  · rw [(leaveG_u S ch ch).1]; exact h.hcu
  · rw [leaveG_p S h.hch, if_pos rfl]
  · rw [(leaveG_u S ch ch).2.2.1]; exact f1

theorem orderF_congr {S A : List Nd} : ∀ {f p : Nat}, (∀ y ∈ orderF S f p, (nd A y.toNat).ks = (nd S y.toNat).ks) → orderF A f p = orderF S f p
  | 0, _, _ => rfl
  | f + 1, p, h => by
    have hp : (nd A p).ks = (nd S p).ks := by
      have := h (p : Int) (by simp [orderF])
      simpa using this
    simp only [orderF, hp]
    congr 1
    have : ∀ l : List Int, (∀ k ∈ l, k ∈ (nd S p).ks) → l.flatMap (fun k => orderF A f k.toNat) = l.flatMap (fun k => orderF S f k.toNat) := by
      intro l
      induction l with
      | nil => intro _; rfl
      | cons k l ih =>
        intro hk
        rw [List.flatMap_cons, List.flatMap_cons, ih (fun x hx => hk x (by simp [hx])), orderF_congr (fun y hy => h y (by
          simp only [orderF, List.mem_cons, List.mem_flatMap]
          exact Or.inr ⟨k, hk k (by simp), hy⟩))]
    exact this _ (fun _ hk => hk)

theorem Puts.order {S : List Nd} {pa ch : Nat} (h : Puts S pa ch) (at' : Nat) : orderS (enterS (leaveG S ch) pa ch at') ch = orderS S ch := by
  obtain ⟨f1, f2, f3⟩ := fits_parts h.fits
  have hl := leaveG_length S ch
  unfold orderS
  rw [enterS_length, hl]
  refine orderF_congr (fun y hy => ?_)
  obtain ⟨q, rfl, hq, _, j, _, hup⟩ := mem_order h.wf h.hch (h.wf.deep_all h.hch) y hy
  rw [Int.toNat_natCast, enter_ks _ f2 (by rw [hl]; exact hq), if_neg, leaveG_ks h.wf h.hch hq]
  · intro e
    obtain ⟨p0, e0, hp0, _, hin, _⟩ := h.wf.parent_place h.hch (by omega)
    have : p0 = q := by omega
    subst this
    obtain ⟨k, ek, _, _, _, hr⟩ := h.wf.kid hp0 hin
    have : k = ch := by omega
    subst this
    exact h.wf.ringless h.hch (j := 1 + j) (by omega) ((WF.up_one hp0 hr).trans hup)
  · rintro rfl
    cases j with
    | zero => exact f2 hup
    | succ j =>
      rw [up_under hq (by omega) (by have := h.wf.up_short hq hup; omega) hup] at f3
      cases f3

theorem idx_ins {ks : List Int} {i : Nat} {c : Int} (hi : i ≤ ks.length) (hc : c ∉ ks) : idx (ins ks i c) c = i := by
  refine (idx_some (k := i) (by rw [ins_length _ _ _ hi]; omega) (ins_here ks i c hi) (fun j hj e => ?_)).1
  rw [ins_low ks i j c hi hj, getD_elem ks 0 (by omega)] at e
  exact hc (by rw [← e]; exact List.getElem_mem _)

theorem idx_lt {ks : List Int} {v : Int} (h : v ∈ ks) : ∃ k : Nat, idx ks v = k ∧ k < ks.length ∧ ks.getD k 0 = v := by
  refine ⟨ks.idxOf v, by unfold idx; rw [if_pos h], List.idxOf_lt_length_of_mem h, ?_⟩
  rw [getD_elem ks 0 (List.idxOf_lt_length_of_mem h)]
  exact List.getElem_idxOf (List.idxOf_lt_length_of_mem h)

theorem Puts.kids {S : List Nd} {pa ch : Nat} (h : Puts S pa ch) (at' : Nat) : (nd (enterS (leaveG S ch) pa ch at') pa).ks = ins (nd (leaveG S ch) pa).ks at' ch ∧ (ch : Int) ∉ (nd (leaveG S ch) pa).ks := by
  obtain ⟨f1, f2, f3⟩ := fits_parts h.fits
  have hl := leaveG_length S ch
  refine ⟨by rw [enter_ks _ f2 (by rw [hl]; exact h.hpa), if_pos rfl], (h.wf.leaveG h.hch).not_kid (by rw [leaveG_p S h.hch, if_pos rfl]) (by rw [hl]; exact h.hpa)⟩

theorem flt_ins {ks : List Int} {i : Nat} {c : Int} (hc : c ∉ ks) : flt (fun x => decide (x = c)) (ins ks i c) = ks := by
  unfold flt ins
  have key : ∀ l : List Int, (∀ x ∈ l, x ∈ ks) → l.filter (fun x => !decide (x = c)) = l := fun l hl => by
    rw [List.filter_eq_self]
    intro x hx
    have : x ≠ c := fun e => hc (by rw [← e]; exact hl x hx)
    simp [this]
  rw [List.filter_append, List.filter_cons, key _ (fun x hx => List.mem_of_mem_take hx), key _ (fun x hx => List.mem_of_mem_drop hx)]
  simp

/-- Put where it stood nowhere, and taken out: as it was. -/
theorem Puts.back {S : List Nd} {pa ch : Nat} (h : Puts S pa ch) (at' : Nat) (hp : (nd S ch).p = -1) : leaveS (enterS (leaveG S ch) pa ch at') pa ch = S := by
  obtain ⟨f1, f2, f3⟩ := fits_parts h.fits
  have hG : leaveG S ch = S := by unfold leaveG; rw [if_pos hp]
  have hn := (h.kids at').2
  rw [hG] at hn ⊢
  have hl1 : (enterS S pa ch at').length = S.length := enterS_length _ _ _ _
  have hl2 : (leaveS (enterS S pa ch at') pa ch).length = S.length := by rw [leaveS_length, hl1]
  refine List.ext_getElem hl2 fun i hi hi' => ?_
  rw [← nd_elem hi, ← nd_elem hi']
  rw [nd_leaveS _ _ _ _ (by rw [hl1]; exact hi')]
  unfold leaveNd
  split
  · rename_i e
    subst e
    obtain ⟨u1, u2, u3, u4, u5, u6⟩ := enter_u S pa i at' i
    rw [u1, u2, u3, u4, u5, u6, enter_ks S f2 hi', if_neg (fun e => f2 e.symm)]
    cases hx : nd S i
    rw [hx] at hp
    simp only at hp
    rw [hp]
  · rename_i e1
    split
    · rename_i e
      subst e
      obtain ⟨u1, u2, u3, u4, u5, u6⟩ := enter_u S i ch at' i
      rw [u1, u2, u3, u4, u5, u6, enter_p S hi', if_neg e1, enter_ks S f2 hi', if_pos rfl, flt_ins hn]
    · rename_i e2
      rw [nd_enterS S pa ch at' i hi']
      unfold enterNd
      rw [if_neg e1, if_neg e2]

/-- Right ahead of q, if that stands under pa. -/
theorem Puts.ahead {S : List Nd} {pa ch q : Nat} (h : Puts S pa ch) (hq : q < S.length) (hqp : (nd S q).p = pa) (hqc : q ≠ ch) : ∃ at' : Nat, idx (nd (leaveG S ch) pa).ks q = at' ∧ at' < (nd (leaveG S ch) pa).ks.length ∧ (nd (leaveG S ch) pa).ks.getD at' 0 = q := by
  have hl := leaveG_length S ch
  have := (h.wf.leaveG h.hch).in_kids (k := q) (y := pa) (by rw [hl]; exact hq) (by rw [leaveG_p S hq, if_neg hqc]; exact hqp)
  exact idx_lt this.2

theorem WF.kids_small {S : List Nd} (h : WF S) {i : Nat} (hi : i < S.length) : (nd S i).ks.length ≤ 24 := by
  have h1 := h.kids_nodup hi
  have := h1.length_le_of_subset (l₂ := (List.range S.length).map (fun k : Nat => (k : Int))) (fun x hx => by
    obtain ⟨k, rfl, hk, _⟩ := h.kid hi hx
    exact List.mem_map.2 ⟨k, List.mem_range.2 hk, rfl⟩)
  rw [List.length_map, List.length_range] at this
  exact Nat.le_trans this h.small

theorem WF.big {S : List Nd} (h : WF S) : Big S := fun _ hi => Nat.le_trans (h.kids_small hi) (by omega)

theorem holds_used {S : List Nd} {k : Nat} {u : Int} (hk : k < S.length) (hu : (nd S k).u = true) (hn : (nd S k).n = u) (h : WF S) : holdsE S k u = 0 := by
  have h1 := (node_parts (h.node k hk)).1
  have h2 := (node_parts (h.node k hk)).2.2
  unfold formB at h2
  rw [if_pos hu] at h2
  unfold rangeB at h1
  simp only [Bool.and_eq_true, decide_eq_true_eq] at h1
  have h3 : (nd S k).n ≠ 0 := fun e => by rw [if_pos e] at h2; cases h2
  unfold holdsE
  rw [if_pos (show isPl S.length (k : Int) = true from decide_eq_true ⟨by omega, by omega⟩), Int.toNat_natCast]
  unfold holdX
  rw [if_pos (decide_eq_true ⟨by omega, by omega⟩), if_pos hu, if_pos hn]

theorem tcheck_of {S : List Nd} {k : Nat} {u : Int} (hk : k < S.length) (hu : (nd S k).u = true) (hn : (nd S k).n = u) (h : WF S) : tcheckE S [((k : Int), u)] = 0 := by
  unfold tcheckE
  rw [if_pos ((wf_iff S).2 h), hands_single]
  exact holds_used hk hu hn h
end Go.Proofs.Ytjlapfgghljidaa

namespace Go.Proofs.Ytjlapfgghljidaa
open Go.RowKit

def SK : Nat → List Nd
  | 0 => List.replicate 6 unusedNd
  | k + 1 => (SK k).set k (madeNd (nd (SK k) k) k)

def S4 : List Nd := enterS (SK 3) 0 1 0
def S5 : List Nd := enterS S4 0 2 0

theorem sk_len : ∀ k, (SK k).length = 6
  | 0 => rfl
  | k + 1 => by simp only [SK, List.length_set]; exact sk_len k

theorem sk_facts : ∀ k, k < 3 → (freeB (nd (SK k) k) = true ∧ (nd (SK k) k).n = 0 ∧ (∀ i, i < k → freeB (nd (SK k) i) = false) ∧ (∀ i, i < 6 → (nd (SK k) i).ks.length ≤ 1000) ∧ checkE (SK k) = 0) := by
  intro k hk
  match k, hk with
  | 0, _ => decide
  | 1, _ => decide
  | 2, _ => decide

theorem sk3_check : tcheckE (SK 3) [(((0 : Nat) : Int), 1), (((1 : Nat) : Int), 1)] = 0 := by decide
theorem s4_check : tcheckE S4 [(((0 : Nat) : Int), 1), (((2 : Nat) : Int), 1), (((1 : Nat) : Int), 1)] = 0 := by decide
theorem s5_check : tcheckE S5 [(((0 : Nat) : Int), 1)] = 0 := by decide
theorem s5_check2 : tcheckE S5 [(((1 : Nat) : Int), 1), (((0 : Nat) : Int), 1)] = 0 := by decide
theorem s5_order : orderF S5 6 0 = [0, 2, 1] := by decide
theorem s3_fit : fitsB (SK 3) 1 0 = true := by decide
theorem s4_fit : fitsB S4 2 0 = true := by decide
theorem s5_fit : fitsB S5 0 1 = false := by decide
theorem s3_p : (nd (SK 3) 1).p = -1 := by decide
theorem s4_p : (nd S4 2).p = -1 := by decide
theorem s4_q : (nd S4 1).p = ((0 : Nat) : Int) := by decide
theorem s4_at : idx (nd S4 0).ks ((1 : Nat) : Int) = ((0 : Nat) : Int) := by decide
theorem s3_at : (nd (SK 3) 0).ks.length = 0 := by decide
theorem s4_len : S4.length = 6 := by decide
theorem s5_len : S5.length = 6 := by decide
theorem sk3_ks : ∀ i, i < (SK 3).length → (nd (SK 3) i).ks.length ≤ 1000 := by decide
theorem s4_ks : ∀ i, i < S4.length → (nd S4 i).ks.length ≤ 1000 := by decide
theorem s5_ks : ∀ i, i < S5.length → (nd S5 i).ks.length ≤ 1000 := by decide
end Go.Proofs.Ytjlapfgghljidaa
