/-
  Acts in memory; what Find answers.
-/
import Derived.Test.YtfaaijoneaompaaGreatJDbDcDe
import Derived.Test.YtfaaijoneaompaaGreatJZhDf
import Derived.BigQuiet
import Derived.Deep.RegionHeld3
import Derived.Laws.StructEq
import Derived.Test.YtfaaijoneaompaaGreatJSkSl
import Derived.Test.YtfaaijoneaompaaGreatJSnWd
namespace Go.Proofs.YtfaaijoneaompaaGreat
open Go.RowKit
set_option linter.unusedVariables false

def zeroAc : Ac := ⟨0, 0, 0, 0, 0⟩
def ac (X : List Ac) (i : Nat) : Ac := X.getD i zeroAc
def ActsAt (w : World) (a : Option Addr) (X : List Ac) : Prop :=
  ∀ i, i < X.length → ∃ b o, a = some ⟨b, o, none⟩ ∧ w.cell? ⟨b, o + i * 5, none⟩ = some (.int .i64 (ac X i).k) ∧ w.cell? ⟨b, o + i * 5 + 1, none⟩ = some (.int .i64 (ac X i).a) ∧ w.cell? ⟨b, o + i * 5 + 2, none⟩ = some (.int .i64 (ac X i).b) ∧ w.cell? ⟨b, o + i * 5 + 3, none⟩ = some (.int .i64 (ac X i).c) ∧ w.cell? ⟨b, o + i * 5 + 4, none⟩ = some (.int .i64 (ac X i).n)
theorem ActsAt.below {w w' : World} {a : Option Addr} {X : List Ac} (h : ActsAt w a X) (hb : Below w.heap.size w w') : ActsAt w' a X := fun i hi => by
  obtain ⟨b, o, e, c0, c1, c2, c3, c4⟩ := h i hi
  exact ⟨b, o, e, keepC c0 hb, keepC c1 hb, keepC c2 hb, keepC c3 hb, keepC c4 hb⟩

/-- What Find answers. -/
def FindAns (f : Nat) : Prop := ∀ (S : List Nd) (p u : Int) (a : Option Addr) (c : Nat) (W : World), WF S → NdsAt W a S →
  Calls Tryz.prog f #[.agg #[.slice a S.length c], .agg #[.int .i64 p, .int .i64 u]] W fun e w' => ∃ (x : Nd) (ka : Option Addr) (kl kc : Nat), e = .returned (.tuple #[.agg #[.bool x.u, .int .i64 x.n, .int .i64 x.t, .int .i64 x.m, .int .i64 x.p, .slice ka kl kc, .int .i64 x.h, .bool x.c], .int .i64 (findE S p u)]) ∧ Below W.heap.size W w' ∧ (findE S p u = 0 → x = nd S p.toNat) ∧ (findE S p u ≠ 0 → x = zeroNd)
set_option maxRecDepth 100000 in
theorem find_ans : FindAns 48 := fun S p u a c W wf hW => by
  have hN : S.length ≤ 9223372036854775807 := by have := wf.small; omega
  by_cases hE : findE S p u = 0
  · obtain ⟨_, k, e, hk, hu, hkn⟩ := held_at hE
    subst e
    rw [Int.toNat_natCast, hE]
    exact (find_ok a c S k u W hN wf.big hW hk hE (by have := kids_1000 wf k hk; omega)).mono (fun e w' ⟨g, e1, hb, hi⟩ => ⟨nd S k, _, _, _, e1, hb, fun _ => rfl, fun h => absurd rfl h⟩)
  · exact (find_err a c S p u _ W hN wf.big hW rfl hE).mono (fun e w' ⟨e1, hb⟩ => ⟨zeroNd, _, _, _, e1, hb, fun h => absurd h hE, fun _ => rfl⟩)

theorem tmod_bdD (k : Int) (n : Nat) (hn : 0 < n) : -(n : Int) < k.tmod n ∧ k.tmod n < n := by
  have h1 := Int.tmod_lt_of_pos k (b := (n : Int)) (by omega)
  have h2 := Int.tmod_lt_of_pos (-k) (b := (n : Int)) (by omega)
  rw [Int.neg_tmod] at h2
  omega
theorem box2_facts {W : World} {b t : Nat} {v0 v1 : Value} (h : W.heap[b]? = some (.cells #[v0, v1] t (0, 0))) : W.cell? ⟨b, 0, none⟩ = some v0 ∧ W.cell? ⟨b, 1, none⟩ = some v1 ∧ b < W.heap.size :=
  ⟨by simp [World.cell?, h], by simp [World.cell?, h], box_lt h⟩
theorem box2_new (W : World) (t : Nat) (v0 v1 : Value) : (W.alloc (.cells #[v0, v1] t)).heap[W.heap.size]? = some (.cells #[v0, v1] t (0, 0)) := heap_alloc_new W _
end Go.Proofs.YtfaaijoneaompaaGreat

namespace Go.Proofs.YtfaaijoneaompaaGreat
open Go.RowKit
set_option linter.unusedVariables false

/-- What stays so, a round after the other. -/
structure NoneI (w : World) (bh : Nat) (h1 h2 : Int) (Q : Rl) (q0 q1 q2 q3 : Option Addr) (e0 e1 e2 e3 : Nat) (wr : World) : Prop where
  bel : Below w.heap.size w wr
  box : wr.heap[w.heap.size]? = some (.cells #[.slice q0 Q.s.length e0, .slice q1 Q.hs.length e1, .slice q2 Q.i.length e2, .slice q3 Q.t.length e3] 31 (0, 0))
  rl : RlAt wr ⟨q0, q1, q2, q3, e0, e1, e2, e3⟩ Q
  ok : rcheckE Q = 0
  hand : wr.heap[bh]? = some (.cells #[.int .i64 h1, .int .i64 h2] 45 (0, 0))
/-- The mark that was set last, if any. -/
def MkI (v : Value) (wr : World) (S : List Nd) (h1 h2 : Int) : Prop := v = .pointer none ∨ ∃ mb M, v = .pointer (some ⟨mb, 0, none⟩) ∧ wr.heap[mb]? = some (.cells #[.int .i64 M] 3 (0, 0)) ∧ MarkI S (h1, h2) M
theorem NoneI.below {w wr wr' : World} {bh : Nat} {h1 h2 : Int} {Q : Rl} {q0 q1 q2 q3 : Option Addr} {e0 e1 e2 e3 : Nat} (I : NoneI w bh h1 h2 Q q0 q1 q2 q3 e0 e1 e2 e3 wr) (hb : Below wr.heap.size wr wr') : NoneI w bh h1 h2 Q q0 q1 q2 q3 e0 e1 e2 e3 wr' :=
  ⟨I.bel.trans (hb.mono I.bel.size), keepB I.box hb, I.rl.below hb, I.ok, keepB I.hand hb⟩
theorem MkI.below {v : Value} {wr wr' : World} {S : List Nd} {h1 h2 : Int} (I : MkI v wr S h1 h2) (hb : Below wr.heap.size wr wr') : MkI v wr' S h1 h2 := by
  rcases I with h | ⟨mb, M, h, hm, hk⟩
  · exact Or.inl h
  · exact Or.inr ⟨mb, M, h, keepB hm hb, hk⟩
theorem slQ {W : World} {b t : Nat} {Q : Rl} {q0 q1 q2 q3 : Option Addr} {e0 e1 e2 e3 : Nat} {f} (h : W.heap[b]? = some (.cells #[.slice q0 Q.s.length e0, .slice q1 Q.hs.length e1, .slice q2 Q.i.length e2, .slice q3 Q.t.length e3] t f)) : SlB W b := sl_box h ⟨_, _, _, rfl⟩ ⟨_, _, _, rfl⟩ ⟨_, _, _, rfl⟩ ⟨_, _, _, rfl⟩
/-- The realm's variable is the new one. -/
theorem NoneI.put {w wr S0 S1 : World} {bh : Nat} {h1 h2 : Int} {Q P : Rl} {q0 q1 q2 q3 y0 y1 y2 y3 : Option Addr} {e0 e1 e2 e3 z0 z1 z2 z3 : Nat} (I : NoneI w bh h1 h2 Q q0 q1 q2 q3 e0 e1 e2 e3 wr) (hb : Below wr.heap.size wr S0) (hY : RlAt S0 ⟨y0, y1, y2, y3, z0, z1, z2, z3⟩ P) (hP : rcheckE P = 0)
    (hS : S1 = (((S0.setCell ⟨w.heap.size, 0, none⟩ (.slice y0 P.s.length z0)).setCell ⟨w.heap.size, 1, none⟩ (.slice y1 P.hs.length z1)).setCell ⟨w.heap.size, 2, none⟩ (.slice y2 P.i.length z2)).setCell ⟨w.heap.size, 3, none⟩ (.slice y3 P.t.length z3)) :
    NoneI w bh h1 h2 P y0 y1 y2 y3 z0 z1 z2 z3 S1 ∧ OffB w.heap.size S0 S1 := by
  have J := I.below hb
  have ho : OffB w.heap.size S0 S1 := by rw [hS]; exact (OffB.refl _ _).set.set.set.set
  refine ⟨⟨?_, ?_, hY.offB (slQ J.box) ho, hP, keepO J.hand ho (box_ne J.box J.hand (by simp))⟩, ho⟩
  · rw [hS]
    exact (((J.bel.setCell (Nat.le_refl _) _).setCell (Nat.le_refl _) _).setCell (Nat.le_refl _) _).setCell (Nat.le_refl _) _
  · rw [hS]
    exact box4_set J.box
theorem MkI.put {v : Value} {S0 S1 : World} {S T : List Nd} {h1 h2 : Int} {b t : Nat} {X : Array Value} (I : MkI v S0 S h1 h2) (hx : S0.heap[b]? = some (.cells X t (0, 0))) (h4 : X.size = 4) (ho : OffB b S0 S1) (hs : ∀ M, MarkI S (h1, h2) M → MarkI T (h1, h2) M) : MkI v S1 T h1 h2 := by
  rcases I with h | ⟨mb, M, h, hm, hk⟩
  · exact Or.inl h
  · exact Or.inr ⟨mb, M, h, keepO hm ho (box_ne hx hm (by rw [h4]; simp)), hs M hk⟩

end Go.Proofs.YtfaaijoneaompaaGreat

namespace Go.Proofs.YtfaaijoneaompaaGreat
open Go.RowKit

end Go.Proofs.YtfaaijoneaompaaGreat

namespace Go.Proofs.YtfaaijoneaompaaGreat
open Go.RowKit

end Go.Proofs.YtfaaijoneaompaaGreat

namespace Go.Proofs.YtfaaijoneaompaaGreat
open Go.RowKit

theorem nds_ext {S S' : List Nd} (hl : S.length = S'.length) (h : ∀ i, i < S.length → nd S i = nd S' i) : S = S' :=
  List.ext_getElem hl fun i hi hi' => by
    have := h i hi
    rwa [nd_elem hi, nd_elem hi'] at this

theorem nd_eq_iff (x y : Nd) : x = y ↔ (x.u = y.u ∧ x.n = y.n ∧ x.t = y.t ∧ x.m = y.m ∧ x.p = y.p ∧ x.ks = y.ks ∧ x.h = y.h ∧ x.c = y.c) := by
  constructor
  · rintro rfl
    exact ⟨rfl, rfl, rfl, rfl, rfl, rfl, rfl, rfl⟩
  · obtain ⟨a1, a2, a3, a4, a5, a6, a7, a8⟩ := x
    obtain ⟨b1, b2, b3, b4, b5, b6, b7, b8⟩ := y
    rintro ⟨rfl, rfl, rfl, rfl, rfl, rfl, rfl, rfl⟩
    rfl

theorem sameNode_eq (x y : Nd) (ka ka' : Option Addr) (kc kc' : Nat) (w : World) (hbig : x.ks.length ≤ 9223372036854775807) (h1 : IntsAt w ka x.ks) (h2 : IntsAt w ka' y.ks) :
    Calls Tryz.prog 85 #[.agg #[.bool x.u, .int .i64 x.n, .int .i64 x.t, .int .i64 x.m, .int .i64 x.p, .slice ka x.ks.length kc, .int .i64 x.h, .bool x.c], .agg #[.bool y.u, .int .i64 y.n, .int .i64 y.t, .int .i64 y.m, .int .i64 y.p, .slice ka' y.ks.length kc', .int .i64 y.h, .bool y.c]] w fun e w' => ∃ r : Bool, e = .returned (.bool r) ∧ Below w.heap.size w w' ∧ (r = true ↔ x = y) := by
  refine (sameNode_any x.u y.u x.n y.n x.t y.t x.m y.m x.p y.p x.ks y.ks ka ka' kc kc' x.h y.h x.c y.c w hbig h1 h2).mono ?_
  rintro e w' ⟨rfl, hb⟩
  exact ⟨_, rfl, hb, by rw [decide_eq_true_iff, nd_eq_iff]⟩

end Go.Proofs.YtfaaijoneaompaaGreat

namespace Go.Proofs.YtfaaijoneaompaaGreat
open Go.RowKit

set_option maxRecDepth 100000 in
set_option maxHeartbeats 4000000 in
theorem rSame_any (a a' : Option Addr) (c c' : Nat) (S S' : List Nd) (w : World) (hN : S.length ≤ 9223372036854775807) (hB : Big S) (h1 : NdsAt w a S) (h2 : NdsAt w a' S') :
    Calls Tryz.prog 20 #[.agg #[.slice a S.length c], .agg #[.slice a' S'.length c']] w fun e w' => ∃ r : Bool, e = .returned (.bool r) ∧ Below w.heap.size w w' ∧ (r = true ↔ S = S') := by
  by_cases hl : S.length = S'.length
  · have E1 : Hid ((∀ i, i < S.length → nd S i = nd S' i) → S = S') := fun h => nds_ext hl h
    have E2 : Hid (∀ i, nd S i ≠ nd S' i → S ≠ S') := fun i h e => h (by rw [e])
    have H1 : Hid (NdsAt w a S) := h1
    have H2 : Hid (NdsAt w a' S') := h2
    have HB : Hid (Big S) := hB
    have HL : Hid (S'.length = S.length) := hl.symm
    rw [← hl]
    clear h1 h2 hB hl
    generalize hn : S.length = n at *
    have HN : Hid _ := hn
    clear hn
    go_enter Tryz.func20, Tryz.ntmps20
    go_wp2
    go_loopg [18] n (fun g s18 wr => ∃ k : Nat, k ≤ n ∧ n - k ≤ g ∧ s18 = .int .i64 k ∧ Hid (Below (w.heap.size + 1 + 1) ((w.alloc (.cells #[.slice a n c] 24)).alloc (.cells #[.slice a' n c'] 24)) wr) ∧ Hid (∀ i, i < k → nd S i = nd S' i))
    case atStart => exact ⟨0, by omega, by omega, rfl, Below.refl _ _, fun i hi => by omega⟩
    case round =>
      obtain ⟨k, hk, hg, rfl, HBr, A⟩ := hrel
      have l0 : wr.cell? ⟨w.heap.size, 0, none⟩ = some (.slice a n c) := (HBr.out.cell (by simp; omega)).trans (by go_simp)
      have l1 : wr.cell? ⟨w.heap.size + 1, 0, none⟩ = some (.slice a' n c') := (HBr.out.cell (by simp)).trans (by go_simp)
      have r0 := World.block_lt_of_cell? _ _ l0
      have r1 := World.block_lt_of_cell? _ _ l1
      have HW : Hid (Below w.heap.size w wr) := (two_below _ _ _).trans (HBr.out.mono (by omega))
      have hsr := HBr.out.size
      simp only [World.size_alloc] at hsr
      by_cases hlt : k < n
      · have hlt2 : (k : Int) < (n : Int) := by omega
        obtain ⟨b, o, rfl, c0, c1, c2, c3, c4, ⟨ka, kc, c5, hk1⟩, c6, c7⟩ := (H1.out.below HW.out) k (by rw [HN.out]; exact hlt)
        obtain ⟨b', o', rfl, e0, e1, e2, e3, e4, ⟨ka', kc', e5, hk2⟩, e6, e7⟩ := (H2.out.below HW.out) k (by rw [HL.out]; exact hlt)
        have hbb := World.block_lt_of_cell? _ _ c0
        have hbb' := World.block_lt_of_cell? _ _ e0
        have d1 := fun o1 o2 => equal_any ka ka' kc kc' (nd S k).ks (nd S' k).ks ((wr.alloc o1).alloc o2) (HB.out k (by rw [HN.out]; exact hlt)) (hk1.below (two_below _ _ _)) (hk2.below (two_below _ _ _))
        have EK2 : Hid _ := E2.out k
        have KK : Hid (nd S k = nd S' k → ∀ i, i < k + 1 → nd S i = nd S' i) := fun h i hi => by
          by_cases e : i = k
          · subst e; exact h
          · exact A.out i (by omega)
        have HB2 : Hid (∀ o1 o2, Below w.heap.size w ((wr.alloc o1).alloc o2)) := fun o1 o2 => HW.out.trans ((two_below _ _ _).mono HW.out.size)
        have HBW : Hid (∀ o1 o2 w3, Below ((wr.alloc o1).alloc o2).heap.size ((wr.alloc o1).alloc o2) w3 → Below (w.heap.size + 1 + 1) ((w.alloc (.cells #[.slice (some ⟨b, o, none⟩) n c] 24)).alloc (.cells #[.slice (some ⟨b', o', none⟩) n c'] 24)) w3) := fun o1 o2 w3 hb3 => (HBr.out.trans ((two_below wr o1 o2).mono (by omega))).trans (hb3.mono (by simp; omega))
        clear hk1 hk2
        generalize nd S k = x at *
        generalize nd S' k = y at *
        obtain ⟨xu, xn, xt, xm, xp, xks, xh, xc⟩ := x
        obtain ⟨yu, yn, yt, ym, yp, yks, yh, yc⟩ := y
        dsimp only at *
        generalize hr : decide (xks = yks) = r at *
        have HR : Hid (r = true ↔ xks = yks) := by show _ ↔ _; rw [← hr]; exact decide_eq_true_iff
        have D1 : Hid _ := d1
        clear hr d1
        generalize xks.length = XL at *
        generalize yks.length = YL at *
        by_cases eu : xu = yu
        · subst eu
          by_cases en : xn = yn
          · subst en
            by_cases et : xt = yt
            · subst et
              by_cases em : xm = ym
              · subst em
                by_cases ep : xp = yp
                · subst ep
                  by_cases eh : xh = yh
                  · subst eh
                    by_cases ec : xc = yc
                    · subst ec
                      cases r with
                      | true =>
                        have HT : Hid (∀ i, i < k + 1 → nd S i = nd S' i) := KK.out (by rw [HR.out.1 rfl])
                        go_wp2_with (go_at_call 9; refine (D1.out _ _).mono ?_; rintro e w3 ⟨rfl, hb3⟩)
                        go_roundg (n - (k + 1))
                        case measure => omega
                        case rel => exact ⟨k + 1, by omega, by omega, by go_num, HBW.out _ _ _ hb3, HT⟩
                      | false =>
                        have HF : Hid (S ≠ S') := EK2.out (fun e => by have h := HR.out.2 (congrArg Nd.ks e); cases h)
                        go_wp2_with (go_at_call 9; refine (D1.out _ _).mono ?_; rintro e w3 ⟨rfl, hb3⟩)
                        go_ret
                        first | exact ⟨false, rfl, (two_below _ _ _).trans ((HBW.out _ _ _ hb3).mono (by omega)), ⟨fun h => (by cases h), fun h => absurd h HF.out⟩⟩ | exact Or.inl ⟨rfl, (two_below _ _ _).trans ((HBW.out _ _ _ hb3).mono (by omega)), HF.out⟩
                    · have HF : Hid (S ≠ S') := EK2.out (fun e => ec (congrArg Nd.c e))
                      cases xc <;> cases yc
                      · exact absurd rfl ec
                      · go_wp2
                        go_ret
                        first | exact ⟨false, rfl, HB2.out _ _, ⟨fun h => (by cases h), fun h => absurd h HF.out⟩⟩ | exact Or.inl ⟨rfl, HB2.out _ _, HF.out⟩
                      · go_wp2
                        go_ret
                        first | exact ⟨false, rfl, HB2.out _ _, ⟨fun h => (by cases h), fun h => absurd h HF.out⟩⟩ | exact Or.inl ⟨rfl, HB2.out _ _, HF.out⟩
                      · exact absurd rfl ec
                  · have HF : Hid (S ≠ S') := EK2.out (fun e => eh (congrArg Nd.h e))
                    have bh : (xh == yh) = false := beq_eq_false_iff_ne.2 eh
                    go_wp2
                    go_ret
                    first | exact ⟨false, rfl, HB2.out _ _, ⟨fun h => (by cases h), fun h => absurd h HF.out⟩⟩ | exact Or.inl ⟨rfl, HB2.out _ _, HF.out⟩
                · have HF : Hid (S ≠ S') := EK2.out (fun e => ep (congrArg Nd.p e))
                  have bp : (xp == yp) = false := beq_eq_false_iff_ne.2 ep
                  go_wp2
                  go_ret
                  first | exact ⟨false, rfl, HB2.out _ _, ⟨fun h => (by cases h), fun h => absurd h HF.out⟩⟩ | exact Or.inl ⟨rfl, HB2.out _ _, HF.out⟩
              · have HF : Hid (S ≠ S') := EK2.out (fun e => em (congrArg Nd.m e))
                have bm : (xm == ym) = false := beq_eq_false_iff_ne.2 em
                go_wp2
                go_ret
                first | exact ⟨false, rfl, HB2.out _ _, ⟨fun h => (by cases h), fun h => absurd h HF.out⟩⟩ | exact Or.inl ⟨rfl, HB2.out _ _, HF.out⟩
            · have HF : Hid (S ≠ S') := EK2.out (fun e => et (congrArg Nd.t e))
              have bt : (xt == yt) = false := beq_eq_false_iff_ne.2 et
              go_wp2
              go_ret
              first | exact ⟨false, rfl, HB2.out _ _, ⟨fun h => (by cases h), fun h => absurd h HF.out⟩⟩ | exact Or.inl ⟨rfl, HB2.out _ _, HF.out⟩
          · have HF : Hid (S ≠ S') := EK2.out (fun e => en (congrArg Nd.n e))
            have bn : (xn == yn) = false := beq_eq_false_iff_ne.2 en
            go_wp2
            go_ret
            first | exact ⟨false, rfl, HB2.out _ _, ⟨fun h => (by cases h), fun h => absurd h HF.out⟩⟩ | exact Or.inl ⟨rfl, HB2.out _ _, HF.out⟩
        · have HF : Hid (S ≠ S') := EK2.out (fun e => eu (congrArg Nd.u e))
          cases xu <;> cases yu
          · exact absurd rfl eu
          · go_wp2
            go_ret
            first | exact ⟨false, rfl, HB2.out _ _, ⟨fun h => (by cases h), fun h => absurd h HF.out⟩⟩ | exact Or.inl ⟨rfl, HB2.out _ _, HF.out⟩
          · go_wp2
            go_ret
            first | exact ⟨false, rfl, HB2.out _ _, ⟨fun h => (by cases h), fun h => absurd h HF.out⟩⟩ | exact Or.inl ⟨rfl, HB2.out _ _, HF.out⟩
          · exact absurd rfl eu
      · have : k = n := by omega
        subst this
        go_wp2
        go_ret
        first | exact ⟨true, rfl, HW.out, ⟨fun _ => E1.out A.out, fun _ => rfl⟩⟩ | exact Or.inr ⟨rfl, HW.out, E1.out A.out⟩
  · have hl' : ¬ ((S.length : Int) = (S'.length : Int)) := by omega
    have HNE : Hid (S ≠ S') := fun e => hl (by rw [e])
    clear h1 h2 hB
    generalize S.length = n at *
    generalize S'.length = n' at *
    go_enter Tryz.func20, Tryz.ntmps20
    go_wp2
    go_ret
    first | exact ⟨false, rfl, two_below _ _ _, ⟨fun h => (by cases h), fun h => absurd h HNE.out⟩⟩ | exact Or.inl ⟨rfl, two_below _ _ _, HNE.out⟩
end Go.Proofs.YtfaaijoneaompaaGreat
