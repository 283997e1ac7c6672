/-
  Acts in memory; what Find answers.
-/
import Derived.Test.YtgjfmepbphfjoaaGreatUDeZh
import Derived.Test.YtgjfmepbphfjoaaGreatUDf
import Derived.Test.YtgjfmepbphfjoaaGreatUCb
import Derived.WalkKit
import Derived.ProofKit
import Derived.OpenShut
import Derived.ChangeOld
import Derived.Below
import Derived.Deep.Slices
import Derived.Lib.SmallJoins
import Derived.Test.YtgjfmepbphfjoaaGreatUDbDcZg
import Derived.Test.YtgjfmepbphfjoaaGreatUSmBoSpLay
import Derived.Test.YtgjfmepbphfjoaaGreatUSaSbScBa
import Derived.Laws.CopyOwn
import Derived.Laws.EntriesVeiled
namespace Go.Proofs.YtgjfmepbphfjoaaGreat
open Go.RowKit
set_option linter.unusedVariables false

def zeroAc : Ac := ⟨0, 0, 0, 0, 0⟩
def ac (X : List Ac) (i : Nat) : Ac := X.getD i zeroAc
def ActsAt (w : World) (a : Option Addr) (X : List Ac) : Prop :=
  ∀ i, i < X.length → ∃ b o, a = some ⟨b, o, none⟩ ∧ w.cell? ⟨b, o + i * 5, none⟩ = some (.int .i64 (ac X i).k) ∧ w.cell? ⟨b, o + i * 5 + 1, none⟩ = some (.int .i64 (ac X i).a) ∧ w.cell? ⟨b, o + i * 5 + 2, none⟩ = some (.int .i64 (ac X i).b) ∧ w.cell? ⟨b, o + i * 5 + 3, none⟩ = some (.int .i64 (ac X i).c) ∧ w.cell? ⟨b, o + i * 5 + 4, none⟩ = some (.int .i64 (ac X i).n)
theorem ActsAt.below {w w' : World} {a : Option Addr} {X : List Ac} (h : ActsAt w a X) (hb : Below w.heap.size w w') : ActsAt w' a X := fun i hi => by
  obtain ⟨b, o, e, c0, c1, c2, c3, c4⟩ := h i hi
  exact ⟨b, o, e, keepC c0 hb, keepC c1 hb, keepC c2 hb, keepC c3 hb, keepC c4 hb⟩

/-- What Find answers. -/
def FindAns (f : Nat) : Prop := ∀ (S : List Nd) (p u : Int) (a : Option Addr) (c : Nat) (W : World), WF S → NdsAt W a S →
  Calls Tryz.prog f #[.agg #[.slice a S.length c], .agg #[.int .i64 p, .int .i64 u]] W fun e w' => ∃ (x : Nd) (ka : Option Addr) (kl kc : Nat), e = .returned (.tuple #[.agg #[.bool x.u, .int .i64 x.n, .int .i64 x.t, .int .i64 x.m, .int .i64 x.p, .slice ka kl kc, .int .i64 x.h, .bool x.c], .int .i64 (findE S p u)]) ∧ Below W.heap.size W w' ∧ (findE S p u = 0 → x = nd S p.toNat) ∧ (findE S p u ≠ 0 → x = zeroNd)
set_option maxRecDepth 100000 in
theorem find_ans : FindAns 10 := fun S p u a c W wf hW => by
  have hN : S.length ≤ 9223372036854775807 := by have := wf.small; omega
  by_cases hE : findE S p u = 0
  · obtain ⟨_, k, e, hk, hu, hkn⟩ := held_at hE
    subst e
    rw [Int.toNat_natCast, hE]
    exact (find_ok a c S k u W hN wf.big hW hk hE (by have := kids_1000 wf k hk; omega)).mono (fun e w' ⟨g, e1, hb, hi⟩ => ⟨nd S k, _, _, _, e1, hb, fun _ => rfl, fun h => absurd rfl h⟩)
  · exact (find_err a c S p u _ W hN wf.big hW rfl hE).mono (fun e w' ⟨e1, hb⟩ => ⟨zeroNd, _, _, _, e1, hb, fun h => absurd h hE, fun _ => rfl⟩)

theorem tmod_bdD (k : Int) (n : Nat) (hn : 0 < n) : -(n : Int) < k.tmod n ∧ k.tmod n < n := by
  have h1 := Int.tmod_lt_of_pos k (b := (n : Int)) (by omega)
  have h2 := Int.tmod_lt_of_pos (-k) (b := (n : Int)) (by omega)
  rw [Int.neg_tmod] at h2
  omega
set_option maxHeartbeats 400000 in
theorem at_inD (k : Int) (n : Nat) (hn : 0 < n) (hn' : n ≤ 1000) : ∃ p : Nat, p < n ∧ ∀ w : World,
    Calls Tryz.prog 8 #[.int .i64 k, .int .i64 n] w fun e w' => e = .returned (.int .i64 (p : Int)) ∧ w' = w := by
  obtain ⟨hb1, hb2⟩ := tmod_bdD k n hn
  generalize hr : k.tmod (n : Int) = r at hb1 hb2
  by_cases h : r < 0
  · obtain ⟨p, hp⟩ : ∃ p : Nat, (p : Int) = r + n := ⟨(r + n).toNat, by omega⟩
    refine ⟨p, by omega, fun w => ?_⟩
    have HP : Hid ((p : Int) = r + n) := hp
    clear hp
    go_enter Tryz.func8, Tryz.ntmps8
    go_wp2
    go_ret
    exact ⟨by rw [HP.out]; rfl, rfl⟩
  · obtain ⟨p, hp⟩ : ∃ p : Nat, (p : Int) = r := ⟨r.toNat, by omega⟩
    refine ⟨p, by omega, fun w => ?_⟩
    have HP : Hid ((p : Int) = r) := hp
    clear hp
    go_enter Tryz.func8, Tryz.ntmps8
    go_wp2
    go_ret
    exact ⟨by rw [HP.out]; rfl, rfl⟩
theorem box2_facts {W : World} {b t : Nat} {v0 v1 : Value} (h : W.heap[b]? = some (.cells #[v0, v1] t (0, 0))) : W.cell? ⟨b, 0, none⟩ = some v0 ∧ W.cell? ⟨b, 1, none⟩ = some v1 ∧ b < W.heap.size :=
  ⟨by simp [World.cell?, h], by simp [World.cell?, h], box_lt h⟩
theorem box2_new (W : World) (t : Nat) (v0 v1 : Value) : (W.alloc (.cells #[v0, v1] t)).heap[W.heap.size]? = some (.cells #[v0, v1] t (0, 0)) := heap_alloc_new W _
end Go.Proofs.YtgjfmepbphfjoaaGreat

namespace Go.Proofs.YtgjfmepbphfjoaaGreat
open Go.ChangeShapes Go.WideShapes Go.ChangeAt Go.RowKit
set_option linter.unusedVariables false

variable {H : Type} {enc : TypeId × Value → H} {w : World} {base : Nat} {spare : Nat → Bool} {held : Bool}

set_option maxRecDepth 100000 in
theorem cellsIntC : Tryz.prog.cellsOf 3 = 1 := by kernel_rfl
set_option maxRecDepth 100000 in
theorem cellsCellC : Tryz.prog.cellsOf 45 = 2 := by kernel_rfl
set_option maxRecDepth 100000 in
theorem cellsGraphC : Tryz.prog.cellsOf 28 = 1 := by kernel_rfl

set_option maxRecDepth 100000 in
theorem open_kidsC {fuel : Nat} {cs : List Value} {x : DataW H × List MemPlace} (h : DataW.trod enc Tryz.prog w base spare held fuel 29 cs = some x) :
    ∃ ka kc, ∃ ks : List Int, cs = [.slice ka ks.length kc] ∧ ks.length ≤ kc ∧ kc ≤ 9223372036854775807 ∧ IntsAt w ka ks := by
  rcases open_ints Tryz.underlying29 Tryz.underlying3 cellsIntC h with ⟨rfl, _⟩ | ⟨a, len, cap, zs, rfl, _, hl, hm, hz, _, hcell, _⟩
  · exact ⟨none, 0, [], rfl, by simp, by omega, fun i hi => absurd hi (Nat.not_lt_zero _)⟩
  · have hlz : len ≤ zs.length := by rw [hz]; split <;> omega
    have htl : (zs.take len).length = len := by rw [List.length_take]; omega
    refine ⟨some a, cap, zs.take len, by rw [htl], by rw [htl]; exact hl, by unfold maxLen at hm; omega, fun i hi => ?_⟩
    rw [htl] at hi
    obtain ⟨b, off, rfl, hc⟩ := ints_at hcell (by omega)
    refine ⟨b, off, rfl, ?_⟩
    rw [hc i (by omega), getD_elem zs 0 (by omega), getD_elem (zs.take len) 0 (by omega), List.getElem_take]

set_option maxRecDepth 100000 in
theorem open_cell {fuel b o : Nat} {cs : List Value} {x : DataW H × List MemPlace} (h : DataW.trod enc Tryz.prog w base spare held fuel 45 cs = some x) (hc : ∀ j, j < 2 → w.cell? ⟨b, o + j, none⟩ = cs[j]?) :
    ∃ y : Cl, ClAt w b o y ∧ y.ks.length ≤ 9223372036854775807 := by
  obtain ⟨xs, n, _, _, hl, hxl, hf⟩ := DataW.trod_struct Tryz.underlying45 h
  rw [cellsCellC] at hl
  match cs, hl with
  | [a0, a1], _ =>
    match xs, hxl with
    | [x0, x1], _ =>
      have g0 := hf 0 _ rfl
      have g1 := hf 1 _ rfl
      obtain ⟨n1, e1, _⟩ := DataW.trod_int Tryz.underlying3 g0
      obtain ⟨ka, kc, ks, e5, hk1, hk2, hI⟩ := open_kidsC g1
      cases e1; cases e5
      exact ⟨⟨n1, ks⟩, ⟨hc 0 (by omega), ka, kc, hc 1 (by omega), hI⟩, by show ks.length ≤ _; omega⟩

theorem list_ofC (len : Nat) (P : Nat → Cl → Prop) (h : ∀ i, i < len → ∃ x, P i x) : ∃ S : List Cl, S.length = len ∧ ∀ i, i < len → P i (cl S i) := by
  induction len with
  | zero => exact ⟨[], rfl, fun i hi => absurd hi (Nat.not_lt_zero _)⟩
  | succ n ih =>
    obtain ⟨S, hl, hS⟩ := ih (fun i hi => h i (by omega))
    obtain ⟨x, hx⟩ := h n (by omega)
    refine ⟨S ++ [x], by simp [hl], fun i hi => ?_⟩
    by_cases e : i = n
    · subst e
      rw [cl_elem (by simp [hl])]
      simpa [hl] using hx
    · have hi' : i < S.length := by omega
      have := hS i (by omega)
      rw [cl_elem hi'] at this
      rw [cl_elem (by simp; omega), List.getElem_append_left hi']
      exact this

set_option maxRecDepth 100000 in
theorem open_cells {fuel : Nat} {cs : List Value} {x : DataW H × List MemPlace} (h : DataW.trod enc Tryz.prog w base spare held fuel 26 cs = some x) :
    ∃ a c, ∃ S : List Cl, cs = [.slice a S.length c] ∧ S.length ≤ 9223372036854775807 ∧ BigC S ∧ ClsAt w a S := by
  rcases Go.Deep.open_slice Tryz.underlying26 h with ⟨rfl, _⟩ | ⟨a, len, cap, m, n, D, Pl, rfl, _, hl, hm, hmm, _, hx⟩
  · exact ⟨none, 0, [], rfl, by simp, fun i hi => absurd hi (Nat.not_lt_zero _), fun i hi => absurd hi (Nat.not_lt_zero _)⟩
  · have hlm : len ≤ m := by rw [hmm]; split <;> omega
    obtain ⟨ab, ao, spot⟩ := a
    by_cases h0 : len = 0
    · subst h0
      exact ⟨_, cap, [], rfl, by simp, fun i hi => absurd hi (Nat.not_lt_zero _), fun i hi => absurd hi (Nat.not_lt_zero _)⟩
    · have hsp : spot = none := by
        obtain ⟨cs', hc, ht⟩ := hx 0 (by omega)
        rw [cellsCellC] at hc
        obtain ⟨_, hl8, hce⟩ := World.cells?_some hc
        have h1 := hce 0 (by omega)
        rw [List.getElem?_eq_getElem (by omega)] at h1
        simpa [Addr.add] using World.cell?_spot h1
      subst hsp
      obtain ⟨S, hS1, hS2⟩ := list_ofC len (fun i x => ClAt w ab (ao + i * 2) x ∧ x.ks.length ≤ 9223372036854775807) (fun i hi => by
        obtain ⟨cs', hc, ht⟩ := hx i (by omega)
        rw [cellsCellC] at hc
        obtain ⟨_, hl8, hce⟩ := World.cells?_some hc
        refine open_cell ht (fun j hj => ?_)
        have h1 := hce j hj
        rwa [add_plain, add_plain] at h1)
      exact ⟨some ⟨ab, ao, none⟩, cap, S, by rw [hS1], by rw [hS1]; unfold maxLen at hm; omega, fun i hi => (hS2 i (by omega)).2, fun i hi => ⟨ab, ao, rfl, (hS2 i (by omega)).1⟩⟩

set_option maxRecDepth 100000 in
theorem open_graph {r : Reach} {b0 : Nat} {v : Value} {d : DataW H} {p : List MemPlace} (hv : Value.okWide Tryz.prog w r b0 28 v) (h : DataW.Trod enc Tryz.prog w base spare held 28 v d p) :
    ∃ a c, ∃ S : List Cl, v = .agg #[.slice a S.length c] ∧ S.length ≤ 9223372036854775807 ∧ BigC S ∧ ClsAt w a S := by
  obtain ⟨cs, rfl, hsz⟩ := okWide_struct Tryz.underlying28 hv
  rw [cellsGraphC] at hsz
  obtain ⟨c0, rfl⟩ : ∃ c0, cs = #[c0] := by
    obtain ⟨l⟩ := cs
    match l, hsz with
    | [c0], _ => exact ⟨c0, rfl⟩
  obtain ⟨fuel, hf⟩ := h
  obtain ⟨y0, n, _, _, h0⟩ := trod_struct1 Tryz.underlying28 hf
  obtain ⟨a, c, S, e, h1, h2, h3⟩ := open_cells h0
  cases e
  exact ⟨a, c, S, rfl, h1, h2, h3⟩

set_option maxRecDepth 100000 in
theorem open_numbers {r : Reach} {b0 : Nat} {v : Value} {d : DataW H} {p : List MemPlace} (hv : Value.okWide Tryz.prog w r b0 29 v) (h : DataW.Trod enc Tryz.prog w base spare held 29 v d p) :
    ∃ a c, ∃ z : List Int, v = .slice a z.length c ∧ z.length ≤ c ∧ c ≤ 9223372036854775807 ∧ IntsAt w a z := by
  obtain ⟨xa, len, cap, rfl⟩ := okWide_slice Tryz.underlying29 hv
  obtain ⟨fuel, hf⟩ := h
  obtain ⟨ka, kc, ks, e, h1, h2, h3⟩ := open_kidsC hf
  simp [Value.cells] at e
  obtain ⟨rfl, rfl, rfl⟩ := e
  exact ⟨_, _, ks, rfl, h1, h2, h3⟩
end Go.Proofs.YtgjfmepbphfjoaaGreat

namespace Go.Proofs.YtgjfmepbphfjoaaGreat
open Go.RowKit Go.ChangeShapes Go.WideShapes
set_option linter.unusedVariables false

theorem infoHandD : (Tryz.prog.info? 39).map (fun i => (i.zero, i.size, i.bytes)) = some (some (.agg #[.int .i64 0, .int .i64 0]), 2, 16) := by kernel_rfl
theorem makeHands16 (w : World) : (Instr.makeSlice 25 (.int .i64 16) (.int .i64 16)).run Tryz.prog w = .ok (.slice (some ⟨w.heap.size, 0, none⟩) 16 16) (w.alloc (.cells (madeCells #[.int .i64 0, .int .i64 0] 32) 39)) := by
  obtain ⟨i, hi, hz0, hz1, hz2⟩ := info_parts infoHandD
  have h := run_make (P := Tryz.prog) w 25 39 i _ Tryz.underlying25 hi hz0 .i64 .i64 16 16 (by omega) (by omega) (by rw [hz2]; omega) (by omega)
  rw [hz1] at h
  exact h
theorem rep_pair (n i : Nat) (h : i < n) : (List.replicate n ((0 : Int), (0 : Int))).getD i (0, 0) = (0, 0) := by
  rw [getD_elem _ _ (by rw [List.length_replicate]; exact h), List.getElem_replicate]
theorem made_zero (n j : Nat) (h : j < n) : (madeCells #[.int .i64 0, .int .i64 0] n)[j]? = some (.int .i64 0) := by
  have h2 : j % 2 = 0 ∨ j % 2 = 1 := by omega
  rcases h2 with h2 | h2 <;> simp [madeCells, h, h2]
theorem hands_made (W : World) : HandsAt (W.alloc (.cells (madeCells #[.int .i64 0, .int .i64 0] 32) 39)) (some ⟨W.heap.size, 0, none⟩) (List.replicate 16 (0, 0)) := fun i hi => by
  rw [List.length_replicate] at hi
  refine ⟨W.heap.size, 0, rfl, ?_, ?_⟩
  · rw [rep_pair 16 i hi]
    exact alloc_cell W _ _ _ (made_zero _ _ (by omega))
  · rw [rep_pair 16 i hi]
    exact alloc_cell W _ _ _ (made_zero _ _ (by omega))
end Go.Proofs.YtgjfmepbphfjoaaGreat

namespace Go.Proofs.YtgjfmepbphfjoaaGreat
open Go.RowKit Go.ChangeShapes Go.WideShapes
set_option linter.unusedVariables false

def ClsSt (X : Nat → Prop) (w : World) (a : Option Addr) (G : List Cl) : Prop := ∀ w', OffX X w w' → ClsAt w' a G
theorem ClsSt.at {X : Nat → Prop} {w : World} {a : Option Addr} {G : List Cl} (h : ClsSt X w a G) : ClsAt w a G := h w (OffX.refl X w)
theorem ClsSt.off {X : Nat → Prop} {w w' : World} {a : Option Addr} {G : List Cl} (h : ClsSt X w a G) (ho : OffX X w w') : ClsSt X w' a G := fun w'' h2 => h w'' (ho.trans h2)
theorem ClsSt.grow {X Y : Nat → Prop} {w w1 : World} {a : Option Addr} {G : List Cl} (h : ClsSt X w a G) (ho : OffX X w w1) (hY : ∀ b, b < w.heap.size → Y b → X b) : ClsSt Y w1 a G := fun w' h2 => h w' (off_grow ho.size ho.block hY h2)
/-- What lies below a size, of which X has none. -/
theorem cls_stB {X : Nat → Prop} {w w1 : World} {a : Option Addr} {G : List Cl} (h : ClsAt w a G) (ho : OffX X w w1) (hX : ∀ b, X b → w.heap.size ≤ b) : ClsSt X w1 a G := fun w' h2 => by
  have h3 := ho.trans h2
  have h4 : ClsAt { w' with os := w.os, tape := w.tape, output := w.output } a G := h.below ⟨rfl, rfl, rfl, h3.size, fun b hb => h3.block b hb (fun hx => by have := hX b hx; omega)⟩
  exact h4

end Go.Proofs.YtgjfmepbphfjoaaGreat

namespace Go.Proofs.YtgjfmepbphfjoaaGreat
open Go.RowKit

theorem run_copy_wide {P : Program} (w : World) (dT sT ty elem : TypeId) (i : TypeInfo) (g o dLen dCap : Nat) (a : Addr) (sLen sCap n : Nat) (cur : Array Value) (t : TypeId) (cs : List Value)
    (hu : P.underlying dT = some (.slice elem)) (hi : P.info? elem = some i) (hg : w.heap[g]? = some (.cells cur t (0, 0))) (hn : n = Nat.min sLen dLen) (hl : cs.length = n * i.size)
    (hsrc : ∀ j v, cs[j]? = some v → w.cell? (a.add j) = some v) (hfit : o + cs.length ≤ cur.size) (h1 : ∀ v ∈ cs, v.oneCell' = true) :
    (Builtin.copy_ #[dT, sT] ty #[.slice (some ⟨g, o, none⟩) dLen dCap, .slice (some a) sLen sCap]).run P w = .ok (goInt n) (w.setRow g (cur.toList.take o ++ cs ++ cur.toList.drop (o + cs.length)).toArray) := by
  have hf := run_firstCells_some (P := P) w i.size n a sLen sCap cs hl hsrc
  have hst := run_storeCells_at P g o t cs 0 cur w hg (by simpa using hfit) h1
  simp only [Nat.add_zero] at hst
  simp [Builtin.copy_, run_underlying hu, Builtin.lenOf, sizeOf, typeInfo, hi, ← hn, hf, hst]

theorem wpList_copy_wide {P : Program} {w : World} {ops : Array Oper} {rest : List Oper} {o : Oper} {a : Act} {Q : Exit → Act → World → Prop} (hgd : o.guard = none) (d s : Operand) (dT sT : TypeId)
    (ho : o.op = .call { callee := .builtin .copy, args := #[d, s], argTypes := #[dT, sT] }) (elem : TypeId) (i : TypeInfo) (hu : P.underlying dT = some (.slice elem)) (hi : P.info? elem = some i)
    (g off dLen dCap : Nat) (ad : Addr) (sLen sCap n : Nat) (hd : a.eval d = .slice (some ⟨g, off, none⟩) dLen dCap) (hs : a.eval s = .slice (some ad) sLen sCap)
    (cur : List Value) (t : TypeId) (hg : w.heap[g]? = some (.cells cur.toArray t (0, 0))) (cs : List Value) (hn : n = Nat.min sLen dLen) (hl : cs.length = n * i.size)
    (hsrc : ∀ j v, cs[j]? = some v → w.cell? (ad.add j) = some v) (hfit : off + cs.length ≤ cur.length) (h1 : ∀ v ∈ cs, v.oneCell' = true)
    (h : ∀ w', w'.heap[g]? = some (.cells (cur.take off ++ cs ++ cur.drop (off + cs.length)).toArray t (0, 0)) → (∀ B w0, Below B w0 w → B ≤ g → Below B w0 w') → wpList P ops Q rest (a.put o.dst (goInt n)) w') : wpList P ops Q (o :: rest) a w := by
  refine wpList_plain hgd fun K hK => ?_
  have hrun := run_copy_wide (P := P) w dT sT o.type elem i g off dLen dCap ad sLen sCap n cur.toArray t cs hu hi hg hn hl hsrc (by simpa using hfit) h1
  unfold Oper.wp
  simp [execOp, ho, resolve, invoke, builtin, hd, hs, hrun, Result.andThen]
  refine hK _ _ (h _ ?_ (fun B w0 hb hB => below_setRow hb hB _))
  have := setRow_heap w g cur.toArray ((cur.toArray.toList.take off ++ cs ++ cur.toArray.toList.drop (off + cs.length)).toArray) t _ hg
  simpa using this

theorem step_copy_wide {P : Program} {ops : Array Oper} {o : Oper} {a : Act} {w : World} {K : Act → World → Prop} {Q : Exit → Act → World → Prop} {E : Prop} (hgd : o.guard = none) (d s : Operand) (dT sT : TypeId)
    (ho : o.op = .call { callee := .builtin .copy, args := #[d, s], argTypes := #[dT, sT] }) (elem : TypeId) (i : TypeInfo) (hu : P.underlying dT = some (.slice elem)) (hi : P.info? elem = some i)
    (g off dLen dCap : Nat) (ad : Addr) (sLen sCap n : Nat) (hd : a.eval d = .slice (some ⟨g, off, none⟩) dLen dCap) (hs : a.eval s = .slice (some ad) sLen sCap)
    (cur : List Value) (t : TypeId) (hg : w.heap[g]? = some (.cells cur.toArray t (0, 0))) (cs : List Value) (hn : n = Nat.min sLen dLen) (hl : cs.length = n * i.size)
    (hsrc : ∀ j v, cs[j]? = some v → w.cell? (ad.add j) = some v) (hfit : off + cs.length ≤ cur.length) (h1 : ∀ v ∈ cs, v.oneCell' = true)
    (h : ∀ w', w'.heap[g]? = some (.cells (cur.take off ++ cs ++ cur.drop (off + cs.length)).toArray t (0, 0)) → (∀ B w0, Below B w0 w → B ≤ g → Below B w0 w') → K (a.put o.dst (goInt n)) w') :
    if Region.wanted o (yielded ops a.tmps) = true then Oper.wp P o a w K Q else E := by
  have hw : Region.wanted o (yielded ops a.tmps) = true := by simp [Region.wanted, hgd]
  rw [if_pos hw]
  have hrun := run_copy_wide (P := P) w dT sT o.type elem i g off dLen dCap ad sLen sCap n cur.toArray t cs hu hi hg hn hl hsrc (by simpa using hfit) h1
  unfold Oper.wp
  simp [execOp, ho, resolve, invoke, builtin, hd, hs, hrun, Result.andThen]
  refine h _ ?_ (fun B w0 hb hB => below_setRow hb hB _)
  have := setRow_heap w g cur.toArray ((cur.toArray.toList.take off ++ cs ++ cur.toArray.toList.drop (off + cs.length)).toArray) t _ hg
  simpa using this

end Go.Proofs.YtgjfmepbphfjoaaGreat

namespace Go.Proofs.YtgjfmepbphfjoaaGreat
open Go.RowKit Go.ChangeShapes Go.WideShapes
set_option linter.unusedVariables false

theorem run_copy_noneW {P : Program} (w : World) (dT sT ty elem : TypeId) (i : TypeInfo) (d a : Option Addr) (dLen dCap sLen sCap : Nat) (hu : P.underlying dT = some (.slice elem)) (hq : P.info? elem = some i) (hn : Nat.min sLen dLen = 0) :
    (Builtin.copy_ #[dT, sT] ty #[.slice d dLen dCap, .slice a sLen sCap]).run P w = .ok (goInt 0) w := by
  have hl : ∀ (x : Addr), (loadCells x 0).run P w = .ok #[] w := fun x => by simpa using run_loadCells_list (P := P) w x [] (by simp)
  cases d <;> cases a <;> simp [Builtin.copy_, run_underlying hu, Builtin.lenOf, Builtin.firstCells, sizeOf, typeInfo, hq, hn, storeCells, hl]
/-- copy of all of a slice, nil too, into a row of the same length. -/
theorem wpList_copy_rows {P : Program} {w : World} {ops : Array Oper} {rest : List Oper} {o : Oper} {a : Act} {Q : Exit → Act → World → Prop} (hgd : o.guard = none) (d s : Operand) (dT sT : TypeId)
    (ho : o.op = .call { callee := .builtin .copy, args := #[d, s], argTypes := #[dT, sT] }) (elem : TypeId) (i : TypeInfo) (size : Nat) (hu : P.underlying dT = some (.slice elem)) (hi : P.info? elem = some i) (hz : i.size = size)
    (g n dCap : Nat) (sa : Option Addr) (sCap : Nat) (hd : a.eval d = .slice (some ⟨g, 0, none⟩) n dCap) (hs : a.eval s = .slice sa n sCap)
    (cur : List Value) (t : TypeId) (hg : w.heap[g]? = some (.cells cur.toArray t (0, 0))) (cs : List Value) (hl : cs.length = n * size) (hcur : cur.length = n * size) (hnil : sa = none → n = 0)
    (hsrc : ∀ ad, sa = some ad → ∀ j v, cs[j]? = some v → w.cell? (ad.add j) = some v) (h1 : ∀ v ∈ cs, v.oneCell' = true)
    (h : ∀ w', Hid (w'.heap[g]? = some (.cells cs.toArray t (0, 0))) → Hid (∀ B w0, Below B w0 w → B ≤ g → Below B w0 w') → wpList P ops Q rest (a.put o.dst (goInt n)) w') : wpList P ops Q (o :: rest) a w := by
  subst hz
  by_cases h0 : n = 0
  · subst h0
    rw [Nat.zero_mul] at hl hcur
    obtain rfl : cs = [] := List.eq_nil_of_length_eq_zero hl
    obtain rfl : cur = [] := List.eq_nil_of_length_eq_zero hcur
    refine wpList_plain hgd fun K hK => ?_
    have hrun := run_copy_noneW (P := P) w dT sT o.type elem i (some ⟨g, 0, none⟩) sa 0 dCap 0 sCap hu hi rfl
    unfold Oper.wp
    simp [execOp, ho, resolve, invoke, builtin, hd, hs, hrun, Result.andThen]
    exact hK _ _ (h w hg (fun _ _ hb _ => hb))
  · cases sa with
    | none => exact absurd (hnil rfl) h0
    | some ad =>
      refine wpList_copy_wide hgd d s dT sT ho elem i hu hi g 0 n dCap ad n sCap n hd hs cur t hg cs (Nat.min_self n).symm hl (hsrc ad rfl) (by omega) h1 (fun w' hw hb => h w' ?_ hb)
      show _ = _
      rw [hw]
      simp [hl, hcur]

end Go.Proofs.YtgjfmepbphfjoaaGreat
