/-
  Given as the program tells it.
-/
import Derived.Test.YtlgnapdhnlhkpaaULiRhRp
import Derived.Test.YtlgnapdhnlhkpaaULdRaRbTo
import Derived.WalkKit
import Derived.ProofKit
import Derived.OpenShut
import Derived.ChangeOld
import Derived.Below
import Derived.Deep.Slices
import Derived.Lib.SmallJoins
namespace Go.Proofs.Ytlgnapdhnlhkpaa
open Go.RowKit

/-- The slots that a node may be given to. -/
def slotsP (S : List Nd) (k : Nat) : List Slt := if (nd S k).p = -1 then [] else slotsF S (nd S k).p.toNat
def toL (L : List Slt) (k : Nat) : Int := match L.find? (fun s => decide ((k : Int) ∈ s.gv)) with | some s => s.pl | none => -1
def toF (S : List Nd) (k : Nat) : Int := toL (slotsP S k) k

theorem toL_some {L : List Slt} {k i : Nat} (hi : i < L.length) (h : (k : Int) ∈ (slt L i).gv) (hf : ∀ j, j < i → (k : Int) ∉ (slt L j).gv) : toL L k = (slt L i).pl := by
  unfold toL
  have e : L.find? (fun s => decide ((k : Int) ∈ s.gv)) = some (slt L i) := by
    rw [List.find?_eq_some_iff_getElem]
    refine ⟨decide_eq_true h, i, hi, (slt_elem hi).symm, fun j hj => ?_⟩
    have := hf j hj
    rw [slt_elem (by omega)] at this
    simp [this]
  rw [e]

theorem toL_none {L : List Slt} {k : Nat} (hf : ∀ j, j < L.length → (k : Int) ∉ (slt L j).gv) : toL L k = -1 := by
  unfold toL
  have e : L.find? (fun s => decide ((k : Int) ∈ s.gv)) = none := by
    rw [List.find?_eq_none]
    intro s hs
    obtain ⟨j, hj, rfl⟩ := List.getElem_of_mem hs
    have := hf j hj
    rw [slt_elem hj] at this
    simpa using this
  rw [e]

theorem slotsP_few {S : List Nd} (wf : WF S) (k : Nat) : (slotsP S k).length ≤ 24 := by
  unfold slotsP
  split
  · simp
  · exact slotsF_few wf _

theorem slotsP_gv {S : List Nd} (wf : WF S) {k i : Nat} (hk : k < S.length) (hi : i < (slotsP S k).length) : (slt (slotsP S k) i).gv.length ≤ 24 := by
  have hm : slt (slotsP S k) i ∈ slotsP S k := by rw [slt_elem hi]; exact List.getElem_mem hi
  generalize slt (slotsP S k) i = s at *
  unfold slotsP at hm
  split at hm
  · cases hm
  · rename_i hp
    obtain ⟨pa, e, hpa, _⟩ := wf.parent_place hk hp
    rw [e, Int.toNat_natCast] at hm
    obtain ⟨_, _, _, _, _, _, _, _, _, _, _, r6, _⟩ := slotsF_mem wf hm
    rcases r6 with e2 | e2
    · rw [e2]; simp
    · rw [e2]
      have h1 := wf.kids_small hpa
      unfold markedF flt
      exact Nat.le_trans (List.length_filter_le _ _) h1

theorem slotsP_any (a : Option Addr) (c : Nat) (S : List Nd) (k : Nat) (w : World) (wf : WF S) (hk : k < S.length) (hS : NdsAt w a S) :
    Calls Try.prog 22 #[.agg #[.slice a S.length c], .int .i64 (nd S k).p] w fun e w' => ∃ v K, e = .returned v ∧ Below w.heap.size w w' ∧ OwnS w.heap.size (slotsP S k) K v w' := by
  unfold slotsP
  by_cases hp : (nd S k).p = -1
  · rw [if_pos hp, hp]
    refine (slotsOf_no a c S (-1) w (by have := wf.small; omega) hS (by unfold rootE; rw [if_pos rfl])).mono fun e w' ⟨he, hb⟩ => ⟨_, fun _ => .slice none 0 0, he, hb, World.ownsRow_nil _ _ _ _, fun i hi => by cases hi⟩
  · rw [if_neg hp]
    obtain ⟨pa, e, hpa, _⟩ := wf.parent_place hk hp
    rw [e, Int.toNat_natCast]
    exact slotsOf_all a c S pa w wf hpa hS

set_option maxRecDepth 100000 in
set_option maxHeartbeats 1000000 in
theorem given_ok (a : Option Addr) (c : Nat) (S : List Nd) (k : Nat) (u : Int) (w : World) (wf : WF S) (hS : NdsAt w a S) (hk : k < S.length) (hE : findE S k u = 0) :
    Calls Try.prog 7 #[.agg #[.slice a S.length c], .agg #[.int .i64 (k : Int), .int .i64 u]] w fun e w' => e = .returned (.tuple #[.int .i64 (toF S k), .int .i64 0]) ∧ Below w.heap.size w w' := by
  have hN := wf.small
  have D : Hid (∀ W, NdsAt W a S → Calls _ _ _ _ _) := fun W hW => find_ok a c S k u W (by omega) wf.big hW hk hE (by have := wf.kids_small hk; omega)
  have DG : Hid (∀ W, NdsAt W a S → Calls _ _ _ _ _) := fun W hW => slotsP_any a c S k W wf hk hW
  have FW := slotsP_few wf k
  have GL : Hid (∀ i, i < (slotsP S k).length → (slt (slotsP S k) i).gv.length ≤ 24) := fun i hi => slotsP_gv wf hk hi
  have TF : Hid (toF S k = toL (slotsP S k) k) := (rfl : toF S k = _)
  have HS : Hid (NdsAt w a S) := hS
  clear hS hE wf
  generalize toF S k = R at *
  generalize slotsP S k = L at *
  generalize nd S k = x at *
  obtain ⟨xu, xn, xt, xm, xp, xks, xh, xc⟩ := x
  generalize S.length = n at *
  dsimp only at D DG
  obtain ⟨xl, hxl⟩ : ∃ z, xks.length = z := ⟨_, rfl⟩
  rw [hxl] at D
  clear hxl
  go_enter Try.func7, Try.ntmps7
  go_wp2_with fail
  refine Calls.mono (D.out _ (HS.out.below (two_belowS _ _ _))) ?_
  rintro e w1 ⟨g, rfl, hb, _⟩
  have l0 := keepC (alloc_cell1 w #[.slice a n c] 24 0 (.cells #[.int .i64 (k : Int), .int .i64 u] 26) rfl) hb
  have l1 := keepC (alloc_cell2 w #[.int .i64 (k : Int), .int .i64 u] 26 0 (.cells #[.slice a n c] 24) rfl) hb
  have q0 := World.block_lt_of_cell? _ _ l0
  have q1 := World.block_lt_of_cell? _ _ l1
  have HB : Hid (Below w.heap.size w w1) := (two_belowS w _ _).trans (hb.mono (by simp; omega))
  clear hb D
  go_wp2_with fail
  refine Calls.mono (DG.out _ (HS.out.below (HB.out.trans ((one_belowS _ _).mono HB.out.size)))) ?_
  rintro e w2 ⟨v, K, rfl, hb, hO⟩
  have HB2 : Hid (Below w.heap.size w w2) := (HB.out.trans ((one_belowS _ _).mono HB.out.size)).trans (hb.mono (by have := HB.out.size; simp; omega))
  have m1 := keepC (keepC l1 (one_belowS _ _)) hb
  obtain ⟨qa, qc, hv, hsl⟩ := OwnS.slts hO
  subst hv
  have HSL : Hid (SltsAt w2 qa L) := hsl
  obtain ⟨m, hm⟩ : ∃ z, L.length = z := ⟨_, rfl⟩
  have HM : Hid (L.length = m) := hm
  rw [hm] at FW GL ⊢
  clear hb hO DG l0 l1 q0 q1 hsl hm
  go_wp2_with fail
  go_loopg [24] m (fun g s24 wr => ∃ i : Nat, i ≤ m ∧ m - i ≤ g ∧ s24 = .int .i64 i ∧ Hid (Below w2.heap.size w2 wr) ∧ wr.cell? ⟨w.heap.size + 1, 0, none⟩ = some (.int .i64 (k : Int)) ∧ Hid (∀ j, j < i → (k : Int) ∉ (slt L j).gv))
  case atStart => exact ⟨0, by omega, by omega, rfl, Below.refl _ _, m1, fun j hj => absurd hj (Nat.not_lt_zero _)⟩
  case round =>
    obtain ⟨i, hi, hg, rfl, HB3, m2, NF⟩ := hrel
    clear m1
    have q2 := World.block_lt_of_cell? _ _ m2
    by_cases hlt : i < m
    · have hlt2 : (i : Int) < (m : Int) := by omega
      obtain ⟨b, o, ea, f0, f1, ga, gc, f2, hin⟩ := (HSL.out.below HB3.out) i (by rw [HM.out]; exact hlt)
      subst ea
      have gl := GL.out i hlt
      have TS : Hid ((k : Int) ∈ (slt L i).gv → R = (slt L i).pl) := fun h => TF.out.trans (toL_some (by rw [HM.out]; exact hlt) h NF.out)
      have CT : Hid (∀ W, IntsAt W ga (slt L i).gv → Calls _ _ _ _ _) := fun W hW => contains_any ga gc (slt L i).gv (k : Int) W (by omega) hW
      have HIN : Hid (IntsAt wr ga (slt L i).gv) := hin
      have NX : Hid ((k : Int) ∉ (slt L i).gv → ∀ j, j < i + 1 → (k : Int) ∉ (slt L j).gv) := fun h j hj => by
        by_cases e : j = i
        · subst e; exact h
        · exact NF.out j (by omega)
      clear hin NF
      generalize slt L i = s at *
      obtain ⟨spl, snum, sgv⟩ := s
      dsimp only at f0 f1 f2 TS CT HIN NX gl
      obtain ⟨sl, hsl⟩ : ∃ z, sgv.length = z := ⟨_, rfl⟩
      rw [hsl] at f2 CT
      clear hsl gl
      go_wp2_with fail
      refine Calls.mono (CT.out _ (HIN.out.below (one_belowS _ _))) ?_
      rintro e w4 ⟨rfl, hw4⟩
      subst hw4
      by_cases hin : (k : Int) ∈ sgv
      · rw [decide_eq_true hin]
        have HR : Hid (R = spl) := TS.out hin
        clear TS NX hin CT
        go_wp2_with fail
        exact bodyPost_ret (v := .tuple #[.int .i64 spl, .int .i64 0]) (by simp [results, Try.results7, go_sem]) rfl ⟨by rw [HR.out], (HB2.out.trans (HB3.out.mono HB2.out.size)).trans ((one_belowS _ _).mono (HB2.out.trans (HB3.out.mono HB2.out.size)).size)⟩
      · rw [decide_eq_false hin]
        have NX2 : Hid (∀ j, j < i + 1 → (k : Int) ∉ (slt L j).gv) := NX.out hin
        clear TS NX hin CT
        go_wp2_with fail
        go_roundg (m - (i + 1))
        case measure => omega
        case rel => exact ⟨i + 1, by omega, by omega, by go_num, HB3.out.trans ((one_belowS _ _).mono HB3.out.size), keepC m2 (one_belowS _ _), NX2⟩
    · have hie : i = m := by omega
      subst hie
      have HR : Hid (R = -1) := TF.out.trans (toL_none (fun j hj => NF.out j (by rw [← HM.out]; exact hj)))
      clear NF
      go_wp2_with fail
      exact bodyPost_ret (v := .tuple #[.int .i64 (-1), .int .i64 0]) (by simp [results, Try.results7, go_sem]) rfl ⟨by rw [HR.out], HB2.out.trans (HB3.out.mono HB2.out.size)⟩
end Go.Proofs.Ytlgnapdhnlhkpaa

namespace Go.Proofs.Ytlgnapdhnlhkpaa
open Go.ChangeShapes Go.WideShapes Go.ChangeAt Go.RowKit
set_option linter.unusedVariables false

variable {H : Type} {enc : TypeId × Value → H} {w : World} {base : Nat} {spare : Nat → Bool} {held : Bool}

set_option maxRecDepth 100000 in
theorem cells3 : Try.prog.cellsOf 3 = 1 := by kernel_rfl
set_option maxRecDepth 100000 in
theorem cells4 : Try.prog.cellsOf 4 = 1 := by kernel_rfl
set_option maxRecDepth 100000 in
theorem cells32 : Try.prog.cellsOf 33 = 1 := by kernel_rfl
set_option maxRecDepth 100000 in
theorem cells36 : Try.prog.cellsOf 47 = 8 := by kernel_rfl
set_option maxRecDepth 100000 in
theorem cells24 : Try.prog.cellsOf 24 = 1 := by kernel_rfl
set_option maxRecDepth 100000 in
theorem cells22 : Try.prog.cellsOf 22 = 1 := by kernel_rfl

set_option maxRecDepth 100000 in
theorem open_kids {fuel : Nat} {cs : List Value} {x : DataW H × List MemPlace} (h : DataW.trod enc Try.prog w base spare held fuel 33 cs = some x) :
    ∃ ka kc, ∃ ks : List Int, cs = [.slice ka ks.length kc] ∧ ks.length ≤ 9223372036854775807 ∧ IntsAt w ka ks := by
  rcases open_ints Try.underlying33 Try.underlying3 cells3 h with ⟨rfl, _⟩ | ⟨a, len, cap, zs, rfl, _, hl, hm, hz, _, hcell, _⟩
  · exact ⟨none, 0, [], rfl, by simp, fun i hi => absurd hi (Nat.not_lt_zero _)⟩
  · have hlz : len ≤ zs.length := by rw [hz]; split <;> omega
    have htl : (zs.take len).length = len := by rw [List.length_take]; omega
    refine ⟨some a, cap, zs.take len, by rw [htl], by rw [htl]; unfold maxLen at hm; omega, fun i hi => ?_⟩
    rw [htl] at hi
    obtain ⟨b, off, rfl, hc⟩ := ints_at hcell (by omega)
    refine ⟨b, off, rfl, ?_⟩
    rw [hc i (by omega), getD_elem zs 0 (by omega), getD_elem (zs.take len) 0 (by omega), List.getElem_take]

set_option maxRecDepth 100000 in
theorem open_node {fuel b o : Nat} {cs : List Value} {x : DataW H × List MemPlace} (h : DataW.trod enc Try.prog w base spare held fuel 47 cs = some x) (hc : ∀ j, j < 8 → w.cell? ⟨b, o + j, none⟩ = cs[j]?) :
    ∃ nd : Nd, NdAt w b o nd ∧ nd.ks.length ≤ 9223372036854775807 := by
  obtain ⟨xs, n, _, _, hl, hxl, hf⟩ := DataW.trod_struct Try.underlying47 h
  rw [cells36] at hl
  match cs, hl with
  | [a0, a1, a2, a3, a4, a5, a6, a7], _ =>
    match xs, hxl with
    | [x0, x1, x2, x3, x4, x5, x6, x7], _ =>
      have g0 := hf 0 _ rfl
      have g1 := hf 1 _ rfl
      have g2 := hf 2 _ rfl
      have g3 := hf 3 _ rfl
      have g4 := hf 4 _ rfl
      have g5 := hf 5 _ rfl
      have g6 := hf 6 _ rfl
      have g7 := hf 7 _ rfl
      obtain ⟨u, e0, _⟩ := DataW.trod_bool Try.underlying4 g0
      obtain ⟨n1, e1, _⟩ := DataW.trod_int Try.underlying3 g1
      obtain ⟨n2, e2, _⟩ := DataW.trod_int Try.underlying3 g2
      obtain ⟨n3, e3, _⟩ := DataW.trod_int Try.underlying3 g3
      obtain ⟨n4, e4, _⟩ := DataW.trod_int Try.underlying3 g4
      obtain ⟨ka, kc, ks, e5, hks, hI⟩ := open_kids g5
      obtain ⟨n6, e6, _⟩ := DataW.trod_int Try.underlying3 g6
      obtain ⟨u7, e7, _⟩ := DataW.trod_bool Try.underlying4 g7
      cases e0; cases e1; cases e2; cases e3; cases e4; cases e5; cases e6; cases e7
      refine ⟨⟨u, n1, n2, n3, n4, ks, n6, u7⟩, ⟨?_, ?_, ?_, ?_, ?_, ⟨ka, kc, ?_, hI⟩, ?_, ?_⟩, hks⟩
      · exact hc 0 (by omega)
      · exact hc 1 (by omega)
      · exact hc 2 (by omega)
      · exact hc 3 (by omega)
      · exact hc 4 (by omega)
      · exact hc 5 (by omega)
      · exact hc 6 (by omega)
      · exact hc 7 (by omega)

set_option maxRecDepth 100000 in
theorem list_of (len : Nat) (P : Nat → Nd → Prop) (h : ∀ i, i < len → ∃ x, P i x) : ∃ S : List Nd, S.length = len ∧ ∀ i, i < len → P i (nd S i) := by
  induction len with
  | zero => exact ⟨[], rfl, fun i hi => absurd hi (Nat.not_lt_zero _)⟩
  | succ n ih =>
    obtain ⟨S, hl, hS⟩ := ih (fun i hi => h i (by omega))
    obtain ⟨x, hx⟩ := h n (by omega)
    refine ⟨S ++ [x], by simp [hl], fun i hi => ?_⟩
    by_cases e : i = n
    · subst e
      rw [nd_elem (by simp [hl])]
      simpa [hl] using hx
    · have hi' : i < S.length := by omega
      have := hS i (by omega)
      rw [nd_elem hi'] at this
      rw [nd_elem (by simp; omega), List.getElem_append_left hi']
      exact this

set_option maxRecDepth 100000 in
theorem open_nodes {fuel : Nat} {cs : List Value} {x : DataW H × List MemPlace} (h : DataW.trod enc Try.prog w base spare held fuel 22 cs = some x) :
    ∃ a c, ∃ S : List Nd, cs = [.slice a S.length c] ∧ S.length ≤ 9223372036854775807 ∧ Big S ∧ NdsAt w a S := by
  rcases Go.Deep.open_slice Try.underlying22 h with ⟨rfl, _⟩ | ⟨a, len, cap, m, n, D, Pl, rfl, _, hl, hm, hmm, _, hx⟩
  · exact ⟨none, 0, [], rfl, by simp, fun i hi => absurd hi (Nat.not_lt_zero _), fun i hi => absurd hi (Nat.not_lt_zero _)⟩
  · have hlm : len ≤ m := by rw [hmm]; split <;> omega
    obtain ⟨ab, ao, spot⟩ := a
    by_cases h0 : len = 0
    · subst h0
      exact ⟨_, cap, [], rfl, by simp, fun i hi => absurd hi (Nat.not_lt_zero _), fun i hi => absurd hi (Nat.not_lt_zero _)⟩
    · have hsp : spot = none := by
        obtain ⟨cs', hc, ht⟩ := hx 0 (by omega)
        rw [cells36] at hc
        obtain ⟨_, hl8, hce⟩ := World.cells?_some hc
        have h1 := hce 0 (by omega)
        rw [List.getElem?_eq_getElem (by omega)] at h1
        simpa [Addr.add] using World.cell?_spot h1
      subst hsp
      obtain ⟨S, hS1, hS2⟩ := list_of len (fun i x => NdAt w ab (ao + i * 8) x ∧ x.ks.length ≤ 9223372036854775807) (fun i hi => by
        obtain ⟨cs', hc, ht⟩ := hx i (by omega)
        rw [cells36] at hc
        obtain ⟨_, hl8, hce⟩ := World.cells?_some hc
        refine open_node ht (fun j hj => ?_)
        have h1 := hce j hj
        rwa [add_plain, add_plain] at h1)
      exact ⟨some ⟨ab, ao, none⟩, cap, S, by rw [hS1], by rw [hS1]; unfold maxLen at hm; omega, fun i hi => (hS2 i (by omega)).2, fun i hi => ⟨ab, ao, rfl, (hS2 i (by omega)).1⟩⟩

set_option maxRecDepth 100000 in
theorem open_store {r : Reach} {b0 : Nat} {v : Value} {d : DataW H} {p : List MemPlace} (hv : Value.okWide Try.prog w r b0 24 v) (h : DataW.Trod enc Try.prog w base spare held 24 v d p) :
    ∃ a c, ∃ S : List Nd, v = .agg #[.slice a S.length c] ∧ S.length ≤ 9223372036854775807 ∧ Big S ∧ NdsAt w a S := by
  obtain ⟨cs, rfl, hsz⟩ := okWide_struct Try.underlying24 hv
  rw [cells24] at hsz
  obtain ⟨c0, rfl⟩ : ∃ c0, cs = #[c0] := by
    obtain ⟨l⟩ := cs
    match l, hsz with
    | [c0], _ => exact ⟨c0, rfl⟩
  obtain ⟨fuel, hf⟩ := h
  obtain ⟨y0, n, _, _, h0⟩ := trod_struct1 Try.underlying24 hf
  obtain ⟨a, c, S, e, h1, h2, h3⟩ := open_nodes h0
  cases e
  exact ⟨a, c, S, rfl, h1, h2, h3⟩

set_option maxRecDepth 100000 in
theorem open_hand {r : Reach} {b0 : Nat} {v : Value} {d : DataW H} {p : List MemPlace} (hv : Value.okWide Try.prog w r b0 26 v) (h : DataW.Trod enc Try.prog w base spare held 26 v d p) :
    ∃ x y : Int, v = .agg #[.int .i64 x, .int .i64 y] := by
  obtain ⟨v0, v1, y0, y1, n, rfl, _, _, h0, h1⟩ := Go.Joins.open_agg2 Try.underlying26 (by kernel_rfl) (by kernel_rfl) hv h
  obtain ⟨x, e0, _⟩ := DataW.trod_int Try.underlying3 h0
  obtain ⟨y, e1, _⟩ := DataW.trod_int Try.underlying3 h1
  cases e0
  cases e1
  exact ⟨x, y, rfl⟩
end Go.Proofs.Ytlgnapdhnlhkpaa
