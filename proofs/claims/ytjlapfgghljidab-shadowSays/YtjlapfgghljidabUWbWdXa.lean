/-
  leave, of a node with or without a Parent; a store of the call's own that stays while other blocks turn.
-/
import Derived.Test.YtjlapfgghljidabUUaUb
import Derived.Test.YtjlapfgghljidabUTk
import Derived.Test.YtjlapfgghljidabUTbTcTfSn
namespace Go.Proofs.Ytjlapfgghljidab
open Go.RowKit

/-- The store in which ch has left its Parent's children, if it had one. -/
def leaveG (S : List Nd) (ch : Nat) : List Nd := if (nd S ch).p = -1 then S else leaveS S (nd S ch).p.toNat ch

theorem leaveG_length (S : List Nd) (ch : Nat) : (leaveG S ch).length = S.length := by
  unfold leaveG
  split
  · rfl
  · exact leaveS_length _ _ _

theorem Own.up {w : World} {B g : Nat} {S : List Nd} {kb kc : Nat → Nat} (h : Own w B g S kb kc S.length) (w3 : World) (hup : ∀ b, g ≤ b → w3.heap[b]? = w.heap[b]?) : NdsAt w3 (some ⟨g, 0, none⟩) S := by
  obtain ⟨hB, F, hF, hN, hg, hd⟩ := h
  refine Own.nds (B := B) (kb := kb) (kc := kc) ⟨hB, F, hF.of_block (hup g (Nat.le_refl _)), fun i hi => ?_, hg, hd⟩
  obtain ⟨e0, e1, e2, e3, e4, e5, e6, e7, e8, e8b, G, hG, e9⟩ := hN i hi
  exact ⟨e0, e1, e2, e3, e4, e5, e6, e7, e8, e8b, G, hG.of_block (hup (kb i) (Nat.le_of_lt (hg i hi))), e9⟩

/-- The blocks of a store of the call's own. -/
def OwnX (g n : Nat) (kb : Nat → Nat) : Nat → Prop := fun b => b = g ∨ ∃ i, i < n ∧ b = kb i

theorem leave_gen (B g c : Nat) (S : List Nd) (kb kc : Nat → Nat) (ch : Nat) (w : World) (hO : Own w B g S kb kc S.length) (hch : ch < S.length) (hp : (nd S ch).p = -1 ∨ ∃ pa : Nat, pa < S.length ∧ pa ≠ ch ∧ (nd S ch).p = pa) :
    Calls Try.prog 69 #[.slice (some ⟨g, 0, none⟩) S.length c, .int .i64 ch] w fun e w' => e = .returned (.tuple #[]) ∧ Off (OwnX g S.length kb) w w' ∧ Own w' B g (leaveG S ch) kb kc (leaveG S ch).length := by
  rcases hp with hp | ⟨pa, hpa, hne, hp⟩
  · have hc : w.cell? ⟨g, ch * 8 + 4, none⟩ = some (.int .i64 (-1)) := by
      obtain ⟨_, F, hF, hN, _, _⟩ := hO
      obtain ⟨_, _, _, _, e4, _⟩ := hN ch hch
      rw [hF.cell (by omega), e4, hp]
    refine (leave_none g c S.length ch w hch hc).mono ?_
    rintro e w' ⟨he, hb⟩
    refine ⟨he, Off.of_below hb, ?_⟩
    unfold leaveG
    rw [if_pos hp]
    exact hO.below hb
  · refine (leave_any B g c S kb kc pa ch w hO hpa hch hne hp).mono ?_
    rintro e w' ⟨he, hoff, hO'⟩
    refine ⟨he, hoff.mono (fun k _ hk => ?_), ?_⟩
    · rcases hk with hk | hk
      · exact Or.inl hk
      · exact Or.inr ⟨pa, hpa, hk⟩
    · unfold leaveG
      rw [if_neg (by omega), hp, Int.toNat_natCast]
      exact hO'
end Go.Proofs.Ytjlapfgghljidab

namespace Go.Proofs.Ytjlapfgghljidab
open Go.RowKit

theorem find_low {w w1 : World} {v : Value} {x y : Int} (hb : Below (w.heap.size + 1 + 1 + 1) (((w.alloc (.cells #[v] 24)).alloc (.cells #[.int .i64 x, .int .i64 y] 26)).alloc (.cells #[.bool false, .int .i64 0, .int .i64 0, .int .i64 0, .int .i64 0, .slice none 0 0, .int .i64 0, .bool false] 35)) w1) :
    (w1.cell? ⟨w.heap.size, 0, none⟩ = some v ∧ w1.cell? ⟨w.heap.size + 1, 0, none⟩ = some (.int .i64 x) ∧ w1.cell? ⟨w.heap.size + 1, 1, none⟩ = some (.int .i64 y)) ∧
    (w1.cell? ⟨w.heap.size + 1 + 1, 0, none⟩ = some (.bool false) ∧ w1.cell? ⟨w.heap.size + 1 + 1, 1, none⟩ = some (.int .i64 0) ∧ w1.cell? ⟨w.heap.size + 1 + 1, 2, none⟩ = some (.int .i64 0) ∧ w1.cell? ⟨w.heap.size + 1 + 1, 3, none⟩ = some (.int .i64 0) ∧ w1.cell? ⟨w.heap.size + 1 + 1, 4, none⟩ = some (.int .i64 0) ∧ w1.cell? ⟨w.heap.size + 1 + 1, 5, none⟩ = some (.slice none 0 0) ∧ w1.cell? ⟨w.heap.size + 1 + 1, 6, none⟩ = some (.int .i64 0) ∧ w1.cell? ⟨w.heap.size + 1 + 1, 7, none⟩ = some (.bool false)) ∧
    (∀ o, w1.frozen? ⟨w.heap.size + 1 + 1, o, none⟩ = false) ∧ Below w.heap.size w w1 := by
  refine ⟨⟨?_, ?_, ?_⟩, ⟨?_, ?_, ?_, ?_, ?_, ?_, ?_, ?_⟩, fun o => ?_, (three_below _ _ _ _).trans (hb.mono (by omega))⟩
  all_goals first | exact (hb.cell (by first | (simp; done) | (simp; omega))).trans (by go_simp) | exact (hb.frozen (by first | (simp; done) | (simp; omega))).trans (by go_simp)

/-- What Find says is wrong. -/
def findE (S : List Nd) (p u : Int) : Int := if checkE S = 0 then holdsE S p u else checkE S

theorem find_zero {S : List Nd} {p u : Int} (h : WF S) (hh : holdsE S p u = 0) : findE S p u = 0 := by
  rw [findE, if_pos ((wf_iff S).mpr h)]
  exact hh
theorem find_parts {S : List Nd} {p u : Int} (h : findE S p u = 0) : checkE S = 0 ∧ holdsE S p u = 0 := by
  unfold findE at h
  by_cases hc : checkE S = 0
  · rw [if_pos hc] at h
    exact ⟨hc, h⟩
  · rw [if_neg hc] at h
    exact absurd h hc

set_option maxHeartbeats 1000000 in
theorem find_err (a : Option Addr) (c : Nat) (S : List Nd) (p u E : Int) (w : World) (hN : S.length ≤ 9223372036854775807) (hB : Big S) (hS : NdsAt w a S) (hE : findE S p u = E) (hE0 : E ≠ 0) :
    Calls Try.prog 44 #[.agg #[.slice a S.length c], .agg #[.int .i64 p, .int .i64 u]] w fun e w' => e = .returned (.tuple #[.agg #[.bool false, .int .i64 0, .int .i64 0, .int .i64 0, .int .i64 0, .slice none 0 0, .int .i64 0, .bool false], .int .i64 E]) ∧ Below w.heap.size w w' := by
  have d0 := fun W hW => check_any a c S W hN hB hW
  have d1 := fun W hW => holds_any a c S p u W hN hW
  have HS : Hid (NdsAt w a S) := hS
  have hz : (E == 0) = false := by simp [hE0]
  unfold findE at hE
  by_cases hc : checkE S = 0
  · rw [if_pos hc] at hE
    rw [hE] at d1
    rw [hc] at d0
    have D0 : Hid _ := d0
    have D1 : Hid _ := d1
    clear hS d0 d1 hE hB hc
    generalize S.length = n at *
    go_enter Try.func44, Try.ntmps44
    go_wp2_with (go_at_call 62; refine (D0.out _ (HS.out.below (three_below _ _ _ _))).mono ?_; rintro e w1 ⟨rfl, hb1⟩; simp only [World.size_alloc] at hb1; obtain ⟨⟨l0, l1, l2⟩, ⟨z0, z1, z2, z3, z4, z5, z6, z7⟩, hz', hbo⟩ := find_low hb1)
    refine (D1.out _ (HS.out.below hbo)).mono ?_
    rintro e w2 ⟨rfl, hb2⟩
    have hs1 := hb1.size
    simp only [World.size_alloc] at hs1
    have hb12 := hb1.trans (hb2.mono hs1)
    clear l0 l1 l2 z0 z1 z2 z3 z4 z5 z6 z7 hz' hbo hb1 hb2
    obtain ⟨⟨l0, l1, l2⟩, ⟨z0, z1, z2, z3, z4, z5, z6, z7⟩, hz', hbo⟩ := find_low hb12
    go_wp2
    refine bodyPost_ret (v := .tuple #[.agg #[.bool false, .int .i64 0, .int .i64 0, .int .i64 0, .int .i64 0, .slice none 0 0, .int .i64 0, .bool false], .int .i64 E]) (by simp [results, Try.results44, go_sem, z0, z1, z2, z3, z4, z5, z6, z7]) rfl ⟨rfl, ?_⟩
    exact (((((((hbo.setCell (by simp; omega) _).setCell (by simp; omega) _).setCell (by simp; omega) _).setCell (by simp; omega) _).setCell (by simp; omega) _).setCell (by simp; omega) _).setCell (by simp; omega) _).setCell (by simp; omega) _
  · rw [if_neg hc] at hE
    rw [hE] at d0
    have D0 : Hid _ := d0
    clear hS d0 d1 hE hB hc
    generalize S.length = n at *
    go_enter Try.func44, Try.ntmps44
    go_wp2_with (go_at_call 62; refine (D0.out _ (HS.out.below (three_below _ _ _ _))).mono ?_; rintro e w1 ⟨rfl, hb1⟩; simp only [World.size_alloc] at hb1; obtain ⟨⟨l0, l1, l2⟩, ⟨z0, z1, z2, z3, z4, z5, z6, z7⟩, hz', hbo⟩ := find_low hb1)
    refine bodyPost_ret (v := .tuple #[.agg #[.bool false, .int .i64 0, .int .i64 0, .int .i64 0, .int .i64 0, .slice none 0 0, .int .i64 0, .bool false], .int .i64 E]) (by simp [results, Try.results44, go_sem, z0, z1, z2, z3, z4, z5, z6, z7]) rfl ⟨rfl, ?_⟩
    exact (((((((hbo.setCell (by simp; omega) _).setCell (by simp; omega) _).setCell (by simp; omega) _).setCell (by simp; omega) _).setCell (by simp; omega) _).setCell (by simp; omega) _).setCell (by simp; omega) _).setCell (by simp; omega) _

set_option maxHeartbeats 1000000 in
theorem find_ok (a : Option Addr) (c : Nat) (S : List Nd) (k : Nat) (u : Int) (w : World) (hN : S.length ≤ 9223372036854775807) (hB : Big S) (hS : NdsAt w a S) (hk : k < S.length) (hE : findE S k u = 0) (hK : (nd S k).ks.length ≤ 1000000) :
    Calls Try.prog 44 #[.agg #[.slice a S.length c], .agg #[.int .i64 k, .int .i64 u]] w fun e w' => ∃ g, e = .returned (.tuple #[.agg #[.bool (nd S k).u, .int .i64 (nd S k).n, .int .i64 (nd S k).t, .int .i64 (nd S k).m, .int .i64 (nd S k).p, .slice (some ⟨g, 0, none⟩) (nd S k).ks.length (nd S k).ks.length, .int .i64 (nd S k).h, .bool (nd S k).c], .int .i64 0]) ∧ Below w.heap.size w w' ∧ IntsAt w' (some ⟨g, 0, none⟩) (nd S k).ks := by
  have d1 := fun W hW => holds_any a c S k u W hN hW
  rw [(find_parts hE).2] at d1
  have D1 : Hid _ := d1
  have d0 := fun W hW => check_any a c S W hN hB hW
  rw [(find_parts hE).1] at d0
  have D0 : Hid _ := d0
  have HS : Hid (NdsAt w a S) := hS
  have d2 := fun ka kc W hW => copyNode_any (nd S k) ka kc W hK hW
  have D2 : Hid _ := d2
  have NX : Hid (∀ w1, Below w.heap.size w w1 → ∃ b o, a = some ⟨b, o, none⟩ ∧ NdAt w1 b (o + k * 8) (nd S k)) := fun w1 h1 => (hS.below h1) k hk
  have hk2 : (k : Int) < (S.length : Int) := by omega
  have IR : Hid (∀ (W : World) g, W.rowIs g 3 (nd S k).ks.length (fun j => .int .i64 ((nd S k).ks.getD j 0)) → IntsAt W (some ⟨g, 0, none⟩) (nd S k).ks) := fun W g h => ints_of_row h (Nat.le_refl _) (fun _ _ => rfl)
  clear hS d0 d1 d2 hE hK hB
  generalize nd S k = x at *
  obtain ⟨xu, xn, xt, xm, xp, xks, xh, xc⟩ := x
  unfold NdAt at NX
  dsimp only at *
  generalize hL : xks.length = L at *
  have HL : Hid _ := hL
  clear hL
  generalize S.length = n at *
  go_enter Try.func44, Try.ntmps44
  go_wp2_with (go_at_call 62; refine (D0.out _ (HS.out.below (three_below _ _ _ _))).mono ?_; rintro e w0 ⟨rfl, hb0⟩; simp only [World.size_alloc] at hb0; obtain ⟨⟨l0, l1, l2⟩, ⟨z0, z1, z2, z3, z4, z5, z6, z7⟩, hz', hbo0⟩ := find_low hb0)
  refine (D1.out _ (HS.out.below hbo0)).mono ?_
  rintro e w1 ⟨rfl, hb1'⟩
  have hs0 := hb0.size
  simp only [World.size_alloc] at hs0
  have hb1 := hb0.trans (hb1'.mono hs0)
  clear l0 l1 l2 z0 z1 z2 z3 z4 z5 z6 z7 hz' hbo0 hb0 hb1'
  obtain ⟨⟨l0, l1, l2⟩, ⟨z0, z1, z2, z3, z4, z5, z6, z7⟩, hz', hbo⟩ := find_low hb1
  obtain ⟨b, o, rfl, c0, c1, c2, c3, c4, ⟨ka, kc, c5, hks⟩, c6, c7⟩ := NX.out _ hbo
  have HKS : Hid _ := hks
  have HB1 : Hid _ := hb1
  clear hks hb1 hbo
  go_wp2_with fail
  refine (D2.out ka kc _ HKS.out).mono ?_
  rintro e w2 ⟨g, rfl, hb2, hg, hrow⟩
  have hs1 := HB1.out.size
  simp only [World.size_alloc] at hs1
  have hb12 := HB1.out.trans (hb2.mono hs1)
  clear l0 l1 l2 z0 z1 z2 z3 z4 z5 z6 z7 hz' c0 c1 c2 c3 c4 c5 c6 c7
  obtain ⟨⟨l0, l1, l2⟩, ⟨z0, z1, z2, z3, z4, z5, z6, z7⟩, hz', hbo⟩ := find_low hb12
  have HBO : Hid _ := hbo
  have HR : Hid (w2.rowIs g 3 L (fun j => .int .i64 (xks.getD j 0))) := hrow
  clear hb2 hb12 hbo hrow
  go_wp2
  refine bodyPost_ret (v := .tuple #[.agg #[.bool xu, .int .i64 xn, .int .i64 xt, .int .i64 xm, .int .i64 xp, .slice (some ⟨g, 0, none⟩) L L, .int .i64 xh, .bool xc], .int .i64 0]) (by simp [results, Try.results44, go_sem, z0, z1, z2, z3, z4, z5, z6, z7]) rfl ⟨g, rfl, ?_, ?_⟩
  · exact (((((((HBO.out.setCell (by simp; omega) _).setCell (by simp; omega) _).setCell (by simp; omega) _).setCell (by simp; omega) _).setCell (by simp; omega) _).setCell (by simp; omega) _).setCell (by simp; omega) _).setCell (by simp; omega) _
  · refine IR.out _ g ?_
    exact (((((((HR.out.setOther (by simp; omega) _).setOther (by simp; omega) _).setOther (by simp; omega) _).setOther (by simp; omega) _).setOther (by simp; omega) _).setOther (by simp; omega) _).setOther (by simp; omega) _).setOther (by simp; omega) _

end Go.Proofs.Ytjlapfgghljidab

namespace Go.Proofs.Ytjlapfgghljidab
open Go.RowKit

/-- What is asked of a function value that tells yes or no of a node. -/
def TellsN (K : Nat) (caps : Array Value) (p : Nd → Bool) (w : World) : Prop :=
  ∀ (x : Nd) (k : Value) (w1 : World), Below w.heap.size w w1 → Calls Try.prog K (#[.agg #[.bool x.u, .int .i64 x.n, .int .i64 x.t, .int .i64 x.m, .int .i64 x.p, k, .int .i64 x.h, .bool x.c]] ++ caps) w1 fun e w2 => e = .returned (.bool (p x)) ∧ Below w1.heap.size w1 w2

set_option maxHeartbeats 800000 in
theorem indexNd_any (K : Nat) (caps : Array Value) (p : Nd → Bool) (a : Option Addr) (c : Nat) (S : List Nd) (w : World) (hbig : S.length ≤ 9223372036854775807) (hS : NdsAt w a S)
    (eg : ∀ args w, (callFunc K args).run Try.prog w = .ok (.enter K args) w) (hf : TellsN K caps p w) :
    Calls Try.prog 77 #[.slice a S.length c, .func (.func K) #[] caps] w fun e w' => ∃ r : Int, e = .returned (.int .i64 r) ∧ Below w.heap.size w w' ∧
      ((r = -1 ∧ ∀ i, i < S.length → p (nd S i) = false) ∨ (∃ k : Nat, k < S.length ∧ r = k ∧ p (nd S k) = true ∧ ∀ i, i < k → p (nd S i) = false)) := by
  have HS : Hid (NdsAt w a S) := hS
  have HF : Hid (TellsN K caps p w) := hf
  clear hS hf
  generalize hn : S.length = n at *
  have HN : Hid _ := hn
  clear hn
  go_enter Try.func77, Try.ntmps77
  go_wp2
  go_loopg [8] n (fun g s8 wr => ∃ k : Nat, k ≤ n ∧ n - k ≤ g ∧ s8 = .int .i64 k ∧ Below w.heap.size w wr ∧ Hid (∀ i, i < k → p (nd S i) = false))
  case atStart => exact ⟨0, by omega, by omega, rfl, Below.refl _ _, fun i hi => by omega⟩
  case round =>
    obtain ⟨k, hk, hg, rfl, hb, A⟩ := hrel
    by_cases hlt : k < n
    · have hlt2 : (k : Int) < (n : Int) := by omega
      obtain ⟨b, o, rfl, c0, c1, c2, c3, c4, ⟨ka, kc, c5, _⟩, c6, c7⟩ := (HS.out.below hb) k (by rw [HN.out]; exact hlt)
      have hcall := fun v => HF.out (nd S k) v wr hb
      cases hq : p (nd S k) with
      | true =>
        have HQ : Hid (p (nd S k) = true) := hq
        rw [hq] at hcall
        clear hq
        generalize hx : nd S k = x at hcall c0 c1 c2 c3 c4 c5 c6 c7
        clear hx
        go_wp2_with (go_at_fn K; refine (hcall _).mono ?_; rintro e w' ⟨rfl, hb2⟩)
        go_ret
        exact ⟨k, rfl, hb.trans (hb2.mono hb.size), Or.inr ⟨k, hlt, rfl, HQ.out, A.out⟩⟩
      | false =>
        have HQ : Hid (p (nd S k) = false) := hq
        rw [hq] at hcall
        clear hq
        generalize hx : nd S k = x at hcall c0 c1 c2 c3 c4 c5 c6 c7
        clear hx
        go_wp2_with (go_at_fn K; refine (hcall _).mono ?_; rintro e w' ⟨rfl, hb2⟩)
        go_roundg (n - (k + 1))
        case measure => omega
        case rel =>
          refine ⟨k + 1, by omega, by omega, by go_num, hb.trans (hb2.mono hb.size), (show Hid _ from fun i hi => ?_)⟩
          by_cases e : i = k
          · subst e
            exact HQ.out
          · exact A.out i (by omega)
    · have : k = n := by omega
      subst this
      go_wp2
      go_ret
      exact ⟨-1, rfl, hb, Or.inl ⟨rfl, A.out⟩⟩

def hostB (S : List Nd) (x : Int) : Bool := S.any fun n => decide (n.h = x)

theorem hostB_true {S : List Nd} {x : Int} {k : Nat} (hk : k < S.length) (h : (nd S k).h = x) : hostB S x = true :=
  List.any_eq_true.2 ⟨nd S k, by rw [nd_elem hk]; exact List.getElem_mem hk, decide_eq_true h⟩
theorem hostB_false {S : List Nd} {x : Int} : hostB S x = false ↔ ∀ i, i < S.length → (nd S i).h ≠ x := by
  unfold hostB
  rw [List.any_eq_false]
  constructor
  · intro H i hi e
    have := H (nd S i) (by rw [nd_elem hi]; exact List.getElem_mem hi)
    simp [e] at this
  · intro H y hy
    obtain ⟨i, hi, rfl⟩ := List.getElem_of_mem hy
    have := H i hi
    rw [nd_elem hi] at this
    simpa using this

set_option maxHeartbeats 400000 in
theorem rootOf1_any (x : Nd) (k : Value) (q : Nat) (y : Int) (w : World) (hq : w.cell? ⟨q, 0, none⟩ = some (.int .i64 y)) :
    Calls Try.prog 98 #[.agg #[.bool x.u, .int .i64 x.n, .int .i64 x.t, .int .i64 x.m, .int .i64 x.p, k, .int .i64 x.h, .bool x.c], .pointer (some ⟨q, 0, none⟩)] w fun e w' => e = .returned (.bool (decide (x.h = y))) ∧ Below w.heap.size w w' := by
  obtain ⟨u, n, t, m, p, ks, h, c⟩ := x
  dsimp only
  have hql := World.block_lt_of_cell? _ _ hq
  by_cases e : h = y
  · subst e
    rw [decide_eq_true rfl]
    go_enter Try.func98, Try.ntmps98
    go_wp2
    go_ret
    exact ⟨rfl, (Below.refl _ _).alloc (Nat.le_refl _) _⟩
  · rw [decide_eq_false e]
    have e2 : (h == y) = false := by simpa using e
    go_enter Try.func98, Try.ntmps98
    go_wp2
    go_ret
    exact ⟨rfl, (Below.refl _ _).alloc (Nat.le_refl _) _⟩

/-- The place of the node whose Host is x; -1: there is none. -/
def rootE (S : List Nd) (x : Int) : Int := if x = -1 then -1 else (match S.findIdx? fun n => decide (n.h = x) with | some k => (k : Int) | none => -1)

theorem rootE_some {S : List Nd} {x : Int} {k : Nat} (hx : x ≠ -1) (hk : k < S.length) (h : (nd S k).h = x) (hf : ∀ i, i < k → (nd S i).h ≠ x) : rootE S x = k := by
  unfold rootE
  rw [if_neg hx, show S.findIdx? (fun n => decide (n.h = x)) = some k from List.findIdx?_eq_some_iff_getElem.2 ⟨hk, by rw [← nd_elem hk]; exact decide_eq_true h, fun j hj => by
    have := hf j hj
    rw [nd_elem (by omega)] at this
    simpa using this⟩]
theorem rootE_none {S : List Nd} {x : Int} (h : ∀ i, i < S.length → (nd S i).h ≠ x) : rootE S x = -1 := by
  unfold rootE
  by_cases hx : x = -1
  · rw [if_pos hx]
  rw [if_neg hx, show S.findIdx? (fun n => decide (n.h = x)) = none from List.findIdx?_eq_none_iff.2 (fun y hy => by
    obtain ⟨i, hi, rfl⟩ := List.getElem_of_mem hy
    have := h i hi
    rw [nd_elem hi] at this
    simpa using this)]
theorem rootE_host {S : List Nd} {x : Int} (hx : x ≠ -1) : decide (rootE S x = -1) = !hostB S x := by
  cases hb : hostB S x with
  | false => rw [rootE_none (hostB_false.1 hb)]; rfl
  | true =>
    have hne : rootE S x ≠ -1 := by
      intro h
      unfold rootE at h
      rw [if_neg hx] at h
      split at h
      · omega
      · next hn =>
        have := List.findIdx?_eq_none_iff.1 hn
        unfold hostB at hb
        obtain ⟨y, hy, hp⟩ := List.any_eq_true.1 hb
        rw [this y hy] at hp
        cases hp
    rw [decide_eq_false hne]; rfl

set_option maxHeartbeats 800000 in
theorem rootOf_any (a : Option Addr) (c : Nat) (S : List Nd) (x : Int) (w : World) (hN : S.length ≤ 9223372036854775807) (hS : NdsAt w a S) :
    Calls Try.prog 76 #[.agg #[.slice a S.length c], .int .i64 x] w fun e w' => e = .returned (.int .i64 (rootE S x)) ∧ Below w.heap.size w w' := by
  have HS : Hid (NdsAt w a S) := hS
  by_cases hx : x = -1
  · have hr : rootE S x = -1 := by unfold rootE; rw [if_pos hx]
    rw [hr]
    subst hx
    clear hS hr
    generalize S.length = n at *
    go_enter Try.func76, Try.ntmps76
    go_wp2
    go_ret
    exact ⟨rfl, ((Below.refl _ _).alloc (Nat.le_refl _) _).alloc (by simp) _⟩
  · have hT : ∀ w1 : World, w1.cell? ⟨w.heap.size + 1, 0, none⟩ = some (.int .i64 x) → TellsN 98 #[.pointer (some ⟨w.heap.size + 1, 0, none⟩)] (fun n => decide (n.h = x)) w1 := fun w1 h1 y k w2 hb2 =>
      rootOf1_any y k (w.heap.size + 1) x w2 ((hb2.cell (World.block_lt_of_cell? w1 _ h1)).trans h1)
    have D : Hid (∀ (W : World), NdsAt W a S → W.cell? ⟨w.heap.size + 1, 0, none⟩ = some (.int .i64 x) → Calls _ _ _ _ _) := fun W h1 h2 => indexNd_any 98 #[.pointer (some ⟨w.heap.size + 1, 0, none⟩)] (fun n => decide (n.h = x)) a c S W hN h1 (enters_of Try.func98 (by kernel_rfl) rfl) (hT W h2)
    have H1 : Hid (∀ k, k < S.length → decide ((nd S k).h = x) = true → (∀ i, i < k → decide ((nd S i).h = x) = false) → rootE S x = k) := fun k hk h hf => rootE_some hx hk (of_decide_eq_true h) (fun i hi => of_decide_eq_false (hf i hi))
    have H2 : Hid ((∀ i, i < S.length → decide ((nd S i).h = x) = false) → rootE S x = -1) := fun h => rootE_none (fun i hi => of_decide_eq_false (h i hi))
    have hx2 : (x == -1) = false := by simpa using hx
    clear hS hT
    go_enter Try.func76, Try.ntmps76
    go_wp2_with (first
      | (go_at_call 77; refine (D.out _ (HS.out.below (((Below.refl _ _).alloc (Nat.le_refl _) _).alloc (by simp) _)) (by go_simp)).mono ?_; rintro e w1 ⟨r, rfl, hb1, hr⟩)
      | go_in)
    go_ret
    refine ⟨?_, (((Below.refl _ _).alloc (Nat.le_refl _) _).alloc (by simp) _).trans (hb1.mono (by simp; omega))⟩
    rcases hr with ⟨rfl, hall⟩ | ⟨k, hk, rfl, hp, hf⟩
    · rw [H2.out hall]; rfl
    · rw [H1.out k hk hp hf]; rfl

set_option maxHeartbeats 800000 in
/-- IsHost, of a place (None is nobody's Host). -/
theorem isHost_any (a : Option Addr) (c : Nat) (S : List Nd) (x : Int) (w : World) (hN : S.length ≤ 9223372036854775807) (hS : NdsAt w a S) (hx : x ≠ -1) :
    Calls Try.prog 53 #[.agg #[.slice a S.length c], .int .i64 x] w fun e w' => e = .returned (.bool (hostB S x)) ∧ Below w.heap.size w w' := by
  have D : Hid (∀ (W : World), NdsAt W a S → Calls _ _ _ _ _) := fun W hW => rootOf_any a c S x W hN hW
  have HS : Hid (NdsAt w a S) := hS
  have hr := rootE_host (S := S) hx
  clear hS hx
  generalize S.length = n at *
  generalize rootE S x = r at *
  cases hb : hostB S x with
  | true =>
    rw [hb] at hr
    have hr2 : (r == -1) = false := by simpa using hr
    clear hr hb
    go_enter Try.func53, Try.ntmps53
    go_wp2_with (go_at_call 76; refine (D.out _ (HS.out.below ((Below.refl _ _).alloc (Nat.le_refl _) _))).mono ?_; rintro e w1 ⟨rfl, hb1⟩)
    go_ret
    refine ⟨?_, ((Below.refl _ _).alloc (Nat.le_refl _) _).trans (hb1.mono (by simp))⟩
    show Ending.returned (.bool (r != -1)) = _
    simp [bne, hr2]
  | false =>
    rw [hb] at hr
    have hr2 : r = -1 := by simpa using hr
    subst hr2
    clear hr hb
    go_enter Try.func53, Try.ntmps53
    go_wp2_with (go_at_call 76; refine (D.out _ (HS.out.below ((Below.refl _ _).alloc (Nat.le_refl _) _))).mono ?_; rintro e w1 ⟨rfl, hb1⟩)
    go_ret
    exact ⟨rfl, ((Below.refl _ _).alloc (Nat.le_refl _) _).trans (hb1.mono (by simp))⟩

theorem firstFree_none (a : Option Addr) (c : Nat) (S : List Nd) (w : World) (hn : S.length ≤ 9223372036854775807) (hS : NdsAt w a S) (hall : S.any freeB = false) :
    Calls Try.prog 77 #[.slice a S.length c, .func (.func 78) #[] #[]] w fun e w' => e = .returned (.int .i64 (-1)) ∧ Below w.heap.size w w' :=
  (indexNd_any 78 #[] freeB a c S w hn hS (enters_of Try.func78 (by kernel_rfl) rfl) (fun x k w1 _ => free_place x k w1)).mono (fun e w' ⟨r, e1, hb, hr⟩ => by
    rcases hr with ⟨rfl, _⟩ | ⟨k, hk, _, hp, _⟩
    · exact ⟨e1, hb⟩
    · have := List.any_eq_false.1 hall (nd S k) (by rw [nd_elem hk]; exact List.getElem_mem hk)
      exact absurd hp this)

/-- What Make says is wrong. -/
def makeE (S : List Nd) (t : Int) : Int := if checkE S = 0 then (if 0 ≤ t ∧ t ≤ 99 then (if S.any freeB then 0 else 1) else 2) else checkE S

theorem first_free {S : List Nd} (h : S.any freeB = true) : ∃ k, k < S.length ∧ freeB (nd S k) = true ∧ ∀ i, i < k → freeB (nd S i) = false := by
  obtain ⟨x, hx, hf⟩ := List.any_eq_true.1 h
  obtain ⟨i, hi, rfl⟩ := List.getElem_of_mem hx
  rw [← nd_elem hi] at hf
  clear hx h
  induction i using Nat.strongRecOn with
  | ind i ih =>
    by_cases hex : ∃ j, j < i ∧ freeB (nd S j) = true
    · obtain ⟨j, hj, hf2⟩ := hex
      exact ih j hj (by omega) hf2
    · refine ⟨i, hi, hf, fun j hj => ?_⟩
      cases hq : freeB (nd S j) with
      | false => rfl
      | true => exact absurd ⟨j, hj, hq⟩ hex

set_option maxHeartbeats 1000000 in
theorem make_err (a : Option Addr) (c : Nat) (S : List Nd) (t E : Int) (w : World) (hN : S.length ≤ 9223372036854775807) (hB : Big S) (hS : NdsAt w a S) (hE : makeE S t = E) (hE0 : E ≠ 0) :
    Calls Try.prog 54 #[.agg #[.slice a S.length c], .int .i64 t] w fun e w' => e = .returned (.tuple #[.agg #[.slice none 0 0], .agg #[.int .i64 0, .int .i64 0], .int .i64 E]) ∧ Below w.heap.size w w' := by
  have d0 := fun W hW => check_any a c S W hN hB hW
  have HS : Hid (NdsAt w a S) := hS
  unfold makeE at hE
  by_cases hc : checkE S = 0
  · rw [if_pos hc] at hE
    rw [hc] at d0
    have D0 : Hid _ := d0
    by_cases ht : 0 ≤ t ∧ t ≤ 99
    · rw [if_pos ht] at hE
      cases hf : S.any freeB with
      | true => rw [hf] at hE; exact absurd hE.symm hE0
      | false =>
        rw [hf, if_neg (by simp)] at hE
        have DF : Hid (∀ W, NdsAt W a S → Calls _ _ _ _ _) := fun W hW => firstFree_none a c S W hN hW hf
        obtain ⟨ht0, ht1⟩ := ht
        subst hE
        clear hS d0 hB hc hf hE0
        generalize S.length = n at *
        go_enter Try.func54, Try.ntmps54
        go_wp2_with (go_at_call 62; refine (D0.out _ (HS.out.below (three_below _ _ _ _))).mono ?_; rintro e w0 ⟨rfl, hb0⟩; simp only [World.size_alloc] at hb0; obtain ⟨l0, l1, l2, l3, z1, z2, z3⟩ := make_low hb0; have hB0 : Below w.heap.size w w0 := (three_below _ _ _ _).trans (hb0.mono (by omega)))
        go_wp2_with (go_at_call 49; refine (within_yes _ _ _ _ (by omega) (by omega)).mono ?_; rintro e w' ⟨rfl, rfl⟩)
        refine (DF.out _ (HS.out.below hB0)).mono ?_
        rintro e w1 ⟨rfl, hb1'⟩
        have hs0 := hb0.size
        simp only [World.size_alloc] at hs0
        have hb1 := hb0.trans (hb1'.mono hs0)
        have hB1 : Below w.heap.size w w1 := (three_below _ _ _ _).trans (hb1.mono (by omega))
        clear l0 l1 l2 l3 z1 z2 z3 hb0 hb1' hB0
        obtain ⟨l0, l1, l2, l3, z1, z2, z3⟩ := make_low hb1
        go_wp2
        refine bodyPost_ret (v := .tuple #[.agg #[.slice none 0 0], .agg #[.int .i64 0, .int .i64 0], .int .i64 1]) (by simp [results, Try.results54, go_sem, l1, l2, l3]) rfl ⟨rfl, ?_⟩
        first | exact ((hB1.setCell (by simp) _).setCell (by simp; omega) _).setCell (by simp; omega) _ | exact (((hB1.setCell (by simp) _).setCell (by simp; omega) _).setCell (by simp; omega) _).drew
    · rw [if_neg ht] at hE
      have ht' : t < 0 ∨ 99 < t := by omega
      subst hE
      clear hS d0 hB hc ht hE0
      generalize S.length = n at *
      go_enter Try.func54, Try.ntmps54
      go_wp2_with (go_at_call 62; refine (D0.out _ (HS.out.below (three_below _ _ _ _))).mono ?_; rintro e w0 ⟨rfl, hb0⟩; simp only [World.size_alloc] at hb0; obtain ⟨l0, l1, l2, l3, z1, z2, z3⟩ := make_low hb0; have hB0 : Below w.heap.size w w0 := (three_below _ _ _ _).trans (hb0.mono (by omega)))
      go_wp2_with (go_at_call 49; refine (within_no _ _ _ _ ht').mono ?_; rintro e w' ⟨rfl, rfl⟩)
      refine bodyPost_ret (v := .tuple #[.agg #[.slice none 0 0], .agg #[.int .i64 0, .int .i64 0], .int .i64 2]) (by simp [results, Try.results54, go_sem, l1, l2, l3]) rfl ⟨rfl, ?_⟩
      first | exact ((hB0.setCell (by simp) _).setCell (by simp; omega) _).setCell (by simp; omega) _ | exact (((hB0.setCell (by simp) _).setCell (by simp; omega) _).setCell (by simp; omega) _).drew
  · rw [if_neg hc] at hE
    rw [hE] at d0
    have D0 : Hid _ := d0
    have hz : (E == 0) = false := by simp [hE0]
    clear hS d0 hE hB hc
    generalize S.length = n at *
    go_enter Try.func54, Try.ntmps54
    go_wp2_with (go_at_call 62; refine (D0.out _ (HS.out.below (three_below _ _ _ _))).mono ?_; rintro e w0 ⟨rfl, hb0⟩; simp only [World.size_alloc] at hb0; obtain ⟨l0, l1, l2, l3, z1, z2, z3⟩ := make_low hb0; have hB0 : Below w.heap.size w w0 := (three_below _ _ _ _).trans (hb0.mono (by omega)))
    refine bodyPost_ret (v := .tuple #[.agg #[.slice none 0 0], .agg #[.int .i64 0, .int .i64 0], .int .i64 E]) (by simp [results, Try.results54, go_sem, l1, l2, l3]) rfl ⟨rfl, ?_⟩
    first | exact ((hB0.setCell (by simp) _).setCell (by simp; omega) _).setCell (by simp; omega) _ | exact (((hB0.setCell (by simp) _).setCell (by simp; omega) _).setCell (by simp; omega) _).drew
end Go.Proofs.Ytjlapfgghljidab
