/-
  A map[int]bool that the call has made, as a function of numbers: made, looked up, written.
-/
import Derived.Test.YtplkfacaphejgaaProg
import Derived.Maps.OwnOps
import Derived.Maps.Views
import Derived.Test.YtplkfacaphejgaaUSaBa
import Derived.Test.YtplkfacaphejgaaUNaSd
import Derived.Deep.DeepCutAuto
namespace Go.Proofs.Ytplkfacaphejgaa
open Go.ChangeShapes Go.WideShapes

set_option maxRecDepth 100000 in
theorem zeroBool (w : World) : (zeroValue 4).run Try.prog w = .ok (.bool false) w := by kernel_rfl

/-- Block b is a map of at most n entries that says f of every int. -/
def MarksAt (w : World) (b n : Nat) (f : Int → Bool) : Prop :=
  ∃ D : DataW Unit, w.ownsMap Try.prog 3 (plainElem Try.prog 4) b n D ∧ Maps.IsMap D ∧ ∀ k : Int, (Lit.int .i64 k).wf = true → D.atKey (.int .i64 k) (.lit (.bool false)) = .lit (.bool (f k))

theorem MarksAt.made (w : World) : MarksAt (w.alloc (.map #[] 0)) w.heap.size 0 (fun _ => false) :=
  ⟨.map [], World.ownsMap_made w _ _ _, Maps.isMap_empty, fun _ _ => rfl⟩

theorem MarksAt.lt {w : World} {b n : Nat} {f : Int → Bool} (h : MarksAt w b n f) : b < w.heap.size := let ⟨_, h1, _⟩ := h; h1.lt

theorem MarksAt.kept {w w' : World} {b n : Nat} {f : Int → Bool} (h : MarksAt w b n f) (e : w'.heap[b]? = w.heap[b]?) : MarksAt w' b n f := by
  obtain ⟨D, ⟨es, clock, hb, F, hs, hD⟩, h2⟩ := h
  exact ⟨D, ⟨es, clock, e.trans hb, F, hs, hD⟩, h2⟩

theorem plainElem_bool_inv {P : Program} {e : TypeId} (he : P.underlying e = some .bool) {v : Value} {z : DataW Unit × List MemPlace} (h : plainElem P e v = some z) : ∃ x, v = .bool x ∧ z = (.lit (.bool x), []) := by
  unfold plainElem at h
  rw [he] at h
  cases v <;> simp at h
  exact ⟨_, rfl, h.symm⟩

theorem MarksAt.look {w : World} {b n : Nat} {f : Int → Bool} (h : MarksAt w b n f) {t : TypeId} (ht : Try.prog.underlying t = some (.map 3 4)) {k : Int} (hk : (Lit.int .i64 k).wf = true) :
    (Instr.lookup t (.map (some b)) (.int .i64 k) false).run Try.prog w = .ok (.bool (f k)) w := by
  obtain ⟨D, h1, _, h3⟩ := h
  obtain ⟨v, ps, hrun, hv⟩ := h1.lookup (Maps.int_keyed Try.underlying3) ht (zeroBool w) (plainElem_bool Try.underlying4 false) (Maps.keyOf_int_mk Try.underlying3 hk)
  obtain ⟨x, rfl, e⟩ := plainElem_bool_inv Try.underlying4 hv
  rw [h3 k hk] at e
  cases e
  exact hrun

theorem MarksAt.put {w : World} {b n : Nat} {f : Int → Bool} (h : MarksAt w b n f) {t : TypeId} (ht : Try.prog.underlying t = some (.map 3 4)) (hn : n < maxLen) {k : Int} (hk : (Lit.int .i64 k).wf = true) (v : Bool) :
    ∃ w', (Instr.mapUpdate t (.map (some b)) (.int .i64 k) (.bool v)).run Try.prog w = .ok () w' ∧ MarksAt w' b (n + 1) (fun j => if j = k then v else f j) ∧ w.grownBy w' (some b) := by
  obtain ⟨D, h1, h2, h3⟩ := h
  obtain ⟨w', hrun, h4, h5⟩ := h1.update (Maps.int_keyed Try.underlying3) ht hn (Maps.keyOf_int_mk Try.underlying3 hk) (plainElem_bool Try.underlying4 v)
  refine ⟨w', hrun, ⟨_, h4, h2.put _ _, fun j hj => ?_⟩, h5⟩
  by_cases e : j = k
  · subst e
    simp only [if_true]
    exact Maps.atKey_put_same (k := .int .i64 j) h2 (show WideAt.IsKeyLit (.int .i64 j) from trivial) _ _
  · simp only [if_neg e]
    rw [Maps.atKey_put_other (by intro e2; cases e2; exact e rfl)]
    exact h3 j hj

/-- 'm[k]' in the walk. -/
theorem wpList_look_marks (w : World) {ops : Array Oper} {rest : List Oper} {o : Oper} {a : Act} {Q : Exit → Act → World → Prop} (hg : o.guard = none) (m x : Operand) (t : TypeId) (hop : o.op = Op.lookup t m x false)
    (ht : Try.prog.underlying t = some (.map 3 4)) (b n : Nat) (f : Int → Bool) (hm : a.eval m = .map (some b)) (h : MarksAt w b n f) (k : Int) (hx : a.eval x = .int .i64 k) (hk : (Lit.int .i64 k).wf = true)
    (hK : wpList Try.prog ops Q rest (a.put o.dst (.bool (f k))) w) : wpList Try.prog ops Q (o :: rest) a w := by
  refine wpList_plain hg fun K' hK' => ?_
  unfold Oper.wp
  simp [execOp, hop, hm, hx, h.look ht hk, Result.andThen]
  exact hK' _ _ hK

/-- 'm[k] = v' in the walk. -/
theorem wpList_put_marks (w : World) {ops : Array Oper} {rest : List Oper} {o : Oper} {a : Act} {Q : Exit → Act → World → Prop} (hg : o.guard = none) (m x y : Operand) (t : TypeId) (hop : o.op = Op.mapUpdate t m x y)
    (ht : Try.prog.underlying t = some (.map 3 4)) (b n : Nat) (f : Int → Bool) (hm : a.eval m = .map (some b)) (h : MarksAt w b n f) (hn : n < maxLen) (k : Int) (v : Bool) (hx : a.eval x = .int .i64 k) (hy : a.eval y = .bool v) (hk : (Lit.int .i64 k).wf = true)
    (hK : ∀ w', MarksAt w' b (n + 1) (fun j => if j = k then v else f j) → w.grownBy w' (some b) → wpList Try.prog ops Q rest (a.put o.dst undef) w') : wpList Try.prog ops Q (o :: rest) a w := by
  refine wpList_plain hg fun K' hK' => ?_
  obtain ⟨w', hrun, h1, h2⟩ := h.put ht hn hk v
  unfold Oper.wp
  simp [execOp, hop, hm, hx, hy, hrun, Result.andThen]
  exact hK' _ _ (hK w' h1 h2)
end Go.Proofs.Ytplkfacaphejgaa

namespace Go.Proofs.Ytplkfacaphejgaa
open Go.RowKit Go.ChangeShapes Go.WideShapes
set_option linter.unusedVariables false

structure Hr where
  pl : Int
  dn : Bool
  on : Bool
  st : Bool
  id : Int
  deriving DecidableEq

def hr (L : List Hr) (i : Nat) : Hr := L.getD i ⟨0, false, false, false, 0⟩
theorem hr_elem {L : List Hr} {i : Nat} (h : i < L.length) : hr L i = L[i] := by unfold hr; simp [h]

def HrsAt (w : World) (a : Option Addr) (L : List Hr) : Prop :=
  ∀ i, i < L.length → ∃ b o, a = some ⟨b, o, none⟩ ∧ w.cell? ⟨b, o + i * 5, none⟩ = some (.int .i64 (hr L i).pl) ∧ w.cell? ⟨b, o + i * 5 + 1, none⟩ = some (.bool (hr L i).dn) ∧ w.cell? ⟨b, o + i * 5 + 2, none⟩ = some (.bool (hr L i).on) ∧ w.cell? ⟨b, o + i * 5 + 3, none⟩ = some (.bool (hr L i).st) ∧ w.cell? ⟨b, o + i * 5 + 4, none⟩ = some (.int .i64 (hr L i).id)

theorem HrsAt.below {w w' : World} {a : Option Addr} {L : List Hr} (h : HrsAt w a L) (hb : Below w.heap.size w w') : HrsAt w' a L := fun i hi => by
  obtain ⟨b, o, e, h1, h2, h3, h4, h5⟩ := h i hi
  have hlt : b < w.heap.size := World.block_lt_of_cell? _ _ h1
  exact ⟨b, o, e, (hb.cell (by exact hlt)).trans h1, (hb.cell (by exact hlt)).trans h2, (hb.cell (by exact hlt)).trans h3, (hb.cell (by exact hlt)).trans h4, (hb.cell (by exact hlt)).trans h5⟩

/-- Each ID is a number that the machine holds. -/
def BigH (L : List Hr) : Prop := ∀ i, i < L.length → (Lit.int .i64 (hr L i).id).wf = true

def hgo (N : Int) (seen : List Int) : List Hr → Int
  | [] => 0
  | h :: t => if h.pl < 0 ∨ N ≤ h.pl then 4 else if h.id ∈ seen then 3 else hgo N (seen ++ [h.id]) t

def idsF (L : List Hr) (i : Nat) : List Int := (L.take i).map Hr.id
def hErr (N : Int) (L : List Hr) (i : Nat) : Int := hgo N (idsF L i) (L.drop i)
def hcheckE (L : List Hr) (N : Int) : Int := if 24 < L.length then 1 else hErr N L 0

theorem ids_step {L : List Hr} {i : Nat} (h : i < L.length) : idsF L (i + 1) = idsF L i ++ [(hr L i).id] := by
  unfold idsF
  rw [List.take_succ_eq_append_getElem h, List.map_append, hr_elem h]
  rfl
theorem hErr_step {N : Int} {L : List Hr} {i : Nat} (h : i < L.length) : hErr N L i = if (hr L i).pl < 0 ∨ N ≤ (hr L i).pl then 4 else if (hr L i).id ∈ idsF L i then 3 else hErr N L (i + 1) := by
  unfold hErr
  rw [List.drop_eq_getElem_cons h, hgo, ids_step h, hr_elem h]
theorem hErr_end {N : Int} {L : List Hr} {i : Nat} (h : L.length ≤ i) : hErr N L i = 0 := by
  unfold hErr
  rw [List.drop_eq_nil_of_le h]
  rfl

/-- What a set of numbers says. -/
def sk (T : List Int) : Lit → Option Value
  | .int .i64 k => if k ∈ T then some (.agg #[]) else none
  | _ => none
theorem sk_int (T : List Int) (k : Int) : sk T (.int .i64 k) = if k ∈ T then some (.agg #[]) else none := rfl
theorem sk_new (T : List Int) (k : Int) : sk (T ++ [k]) (.int .i64 k) = some (.agg #[]) := by rw [sk_int, if_pos (by simp)]
theorem sk_old {T : List Int} {k : Int} (j : Lit) (h : j ≠ .int .i64 k) : sk (T ++ [k]) j = sk T j := by
  unfold sk
  split
  · rename_i x
    have hne : x ≠ k := fun e => h (by rw [e])
    by_cases hx : x ∈ T
    · rw [if_pos (by simp [hx]), if_pos hx]
    · rw [if_neg (by simp [hx, hne]), if_neg hx]
  · rfl

/-- A map[int]struct{} of the call's own. -/
def SetAt (w : World) (b n : Nat) (T : List Int) : Prop := RawAt Try.prog 3 w b n (sk T)

set_option maxRecDepth 100000 in
theorem zeroUnit (w : World) : (zeroValue 51).run Try.prog w = .ok (.agg #[]) w := by kernel_rfl
theorem intKeyH {k : Int} (h : (Lit.int .i64 k).wf = true) : keyOf Try.prog 3 (.int .i64 k) = some (.int .i64 k) := Maps.keyOf_int_mk Try.underlying3 h

theorem SetAt.made (w : World) : SetAt (w.alloc (.map #[] 0)) w.heap.size 0 [] := (RawAt.made Try.prog 3 w).congr (fun kl _ => by unfold sk; split <;> simp)
theorem SetAt.look {w : World} {b n : Nat} {T : List Int} (h : SetAt w b n T) {k : Int} (hk : (Lit.int .i64 k).wf = true) : (Instr.lookup 46 (.map (some b)) (.int .i64 k) true).run Try.prog w = .ok (.tuple #[.agg #[], .bool (decide (k ∈ T))]) w := by
  have e := RawAt.look_ok h (Maps.int_keyed Try.underlying3) (t := 46) Try.underlying46 (zeroUnit w) (intKeyH hk) trivial
  rw [sk_int] at e
  by_cases hm : k ∈ T
  · rw [if_pos hm] at e
    rw [decide_eq_true hm]
    exact e
  · rw [if_neg hm] at e
    rw [decide_eq_false hm]
    exact e
theorem SetAt.put {w : World} {b n : Nat} {T : List Int} (h : SetAt w b n T) (hn : n < maxLen) {k : Int} (hk : (Lit.int .i64 k).wf = true) : ∃ w', (Instr.mapUpdate 46 (.map (some b)) (.int .i64 k) (.agg #[])).run Try.prog w = .ok () w' ∧ SetAt w' b (n + 1) (T ++ [k]) ∧ w.grownBy w' (some b) := by
  obtain ⟨w', h1, h2, h3⟩ := RawAt.put h (Maps.int_keyed Try.underlying3) (t := 46) Try.underlying46 hn (intKeyH hk) trivial (.agg #[])
  exact ⟨w', h1, h2 _ (sk_new T k) (fun j hj => sk_old j hj), h3⟩

set_option maxRecDepth 100000 in
set_option maxHeartbeats 2000000 in
theorem hcheck_any (a : Option Addr) (c : Nat) (L : List Hr) (N : Int) (w : World) (hN : L.length ≤ 9223372036854775807) (hB : BigH L) (hL : HrsAt w a L) :
    Calls Try.prog 7 #[.slice a L.length c, .int .i64 N] w fun e w' => e = .returned (.int .i64 (hcheckE L N)) ∧ Below w.heap.size w w' := by
  by_cases hm : 24 < L.length
  · have e : hcheckE L N = 1 := by unfold hcheckE; rw [if_pos hm]
    rw [e]
    have hm2 : decide ((24 : Int) < (L.length : Int)) = true := decide_eq_true (by omega)
    clear hB hL e
    generalize L.length = n at *
    go_enter Try.func7, Try.ntmps7
    go_wp2_with fail
    go_ret
    exact ⟨rfl, Below.refl _ _⟩
  · have e : hcheckE L N = hErr N L 0 := by unfold hcheckE; rw [if_neg hm]
    rw [e]
    have HL : Hid (HrsAt w a L) := hL
    have HBG : Hid (BigH L) := hB
    have hm2 : decide ((24 : Int) < (L.length : Int)) = false := decide_eq_false (by omega)
    have ST : Hid (∀ i, i < L.length → hErr N L i = if (hr L i).pl < 0 ∨ N ≤ (hr L i).pl then 4 else if (hr L i).id ∈ idsF L i then 3 else hErr N L (i + 1)) := fun i hi => hErr_step hi
    have IS : Hid (∀ i, i < L.length → idsF L (i + 1) = idsF L i ++ [(hr L i).id]) := fun i hi => ids_step hi
    have EN : Hid (hErr N L L.length = 0) := hErr_end (Nat.le_refl _)
    have M0 : Hid (SetAt (w.alloc (.map #[] 0)) w.heap.size 0 (idsF L 0)) := SetAt.made w
    have hmm := @run_makeMap Try.prog
    clear hB hL e
    obtain ⟨E, hE⟩ : ∃ E, hErr N L 0 = E := ⟨_, rfl⟩
    have HE : Hid (hErr N L 0 = E) := hE
    rw [hE]
    clear hE
    obtain ⟨n, hn⟩ : ∃ n, L.length = n := ⟨_, rfl⟩
    have HN : Hid (L.length = n) := hn
    rw [hn] at hN hm hm2 ST IS EN ⊢
    clear hn
    go_enter Try.func7, Try.ntmps7
    go_wp2_with fail
    go_loopg [16] n (fun g s16 wr => ∃ i : Nat, i ≤ n ∧ n - i ≤ g ∧ s16 = .int .i64 i ∧ Hid (Below w.heap.size w wr) ∧ w.heap.size < wr.heap.size ∧ Hid (SetAt wr w.heap.size i (idsF L i)) ∧ Hid (hErr N L i = E))
    case atStart => exact ⟨0, by omega, by omega, rfl, one_belowS _ _, by simp, M0, HE⟩
    case round =>
      obtain ⟨i, hi, hg, rfl, HBr, hsz, MK, HEi⟩ := hrel
      clear M0 HE
      by_cases hlt : i < n
      · have hlt2 : (i : Int) < (n : Int) := by omega
        obtain ⟨b, o, ea, c0, c1, c2, c3, c4⟩ := (HL.out.below HBr.out) i (by rw [HN.out]; exact hlt)
        subst ea
        have hwf := HBG.out i (by rw [HN.out]; exact hlt)
        have STi : Hid _ := (ST.out i hlt).symm.trans HEi.out
        have ISi : Hid _ := IS.out i hlt
        have q0 := World.block_lt_of_cell? _ _ c0
        generalize hr L i = x at *
        obtain ⟨xp, xd, xo, xs, xi⟩ := x
        dsimp only at c0 c1 c2 c3 c4 hwf STi ISi
        have HBA : Hid (∀ o1, Below w.heap.size w (wr.alloc o1)) := fun o1 => HBr.out.trans ((one_belowS wr o1).mono HBr.out.size)
        have HBA2 : Hid (∀ o1 o2, Below w.heap.size w ((wr.alloc o1).alloc o2)) := fun o1 o2 => HBr.out.trans ((two_belowS wr o1 o2).mono HBr.out.size)
        by_cases hp : xp < 0
        · have d1 : decide (xp < 0) = true := decide_eq_true hp
          have HEE : Hid (4 = E) := by have h := STi.out; rwa [if_pos (Or.inl hp)] at h
          clear STi
          go_wp2_with fail
          go_ret
          exact ⟨by rw [HEE.out]; rfl, HBA.out _⟩
        · have d1 : decide (xp < 0) = false := decide_eq_false hp
          by_cases hq : N ≤ xp
          · have d2 : decide (N ≤ xp) = true := decide_eq_true hq
            have HEE : Hid (4 = E) := by have h := STi.out; rwa [if_pos (Or.inr hq)] at h
            clear STi
            go_wp2_with fail
            go_ret
            exact ⟨by rw [HEE.out]; rfl, HBA.out _⟩
          · have d2 : decide (N ≤ xp) = false := decide_eq_false hq
            have hlook : ∀ o1, (Instr.lookup 46 (.map (some w.heap.size)) (.int .i64 xi) true).run Try.prog (wr.alloc o1) = .ok (.tuple #[.agg #[], .bool (decide (xi ∈ idsF L i))]) (wr.alloc o1) := fun o1 => SetAt.look (RawAt.kept MK.out ((one_belowS wr o1).block _ hsz)) hwf
            by_cases hm3 : xi ∈ idsF L i
            · have HEE : Hid (3 = E) := by have h := STi.out; rwa [if_neg (by omega), if_pos hm3] at h
              rw [decide_eq_true hm3] at hlook
              clear STi hm3
              go_wp2_with fail
              go_ret
              exact ⟨by rw [HEE.out]; rfl, HBA2.out _ _⟩
            · have HEE : Hid (hErr N L (i + 1) = E) := by have h := STi.out; rwa [if_neg (by omega), if_neg hm3] at h
              rw [decide_eq_false hm3] at hlook
              clear STi hm3
              obtain ⟨W2, hW2⟩ : ∃ W2, (wr.alloc (.cells #[.int .i64 xp, .bool xd, .bool xo, .bool xs, .int .i64 xi] 39)).alloc (.cells #[] 51) = W2 := ⟨_, rfl⟩
              have mk2 : SetAt W2 w.heap.size i (idsF L i) := by rw [← hW2]; exact RawAt.kept MK.out ((two_belowS wr _ _).block _ hsz)
              have hb2 : Below w.heap.size w W2 := by rw [← hW2]; exact HBA2.out _ _
              have hs2 : wr.heap.size ≤ W2.heap.size := by rw [← hW2]; simp; omega
              obtain ⟨w3, hput, mk3, gr3⟩ := mk2.put (by unfold maxLen; omega) hwf
              rw [← hW2] at hput
              have MK3 : Hid (SetAt w3 w.heap.size (i + 1) (idsF L (i + 1))) := by rw [ISi.out]; exact mk3
              have HB3 : Hid (Below w.heap.size w w3) := hb2.grown gr3 hb2.size (fun k hk => by cases hk; exact Nat.le_refl _)
              have hs3 : w.heap.size < w3.heap.size := by have := gr3.size; omega
              clear mk2 mk3 gr3 hb2 hs2 hW2 MK
              go_wp2_with fail
              go_roundg (n - (i + 1))
              case measure => omega
              case rel => exact ⟨i + 1, by omega, by omega, by go_num, HB3, hs3, MK3, HEE⟩
      · have hie : i = n := by omega
        subst hie
        have HEE : Hid ((0 : Int) = E) := EN.out.symm.trans HEi.out
        clear MK HEi
        go_wp2_with fail
        go_ret
        exact ⟨by rw [HEE.out]; rfl, HBr.out⟩
end Go.Proofs.Ytplkfacaphejgaa

namespace Go.Proofs.Ytplkfacaphejgaa
open Go.RowKit

def nd (S : List Nd) (i : Nat) : Nd := S.getD i zeroNd

def NdAt (w : World) (b o : Nat) (x : Nd) : Prop :=
  w.cell? ⟨b, o, none⟩ = some (.bool x.u) ∧ w.cell? ⟨b, o + 1, none⟩ = some (.int .i64 x.n) ∧ w.cell? ⟨b, o + 2, none⟩ = some (.int .i64 x.t) ∧ w.cell? ⟨b, o + 3, none⟩ = some (.int .i64 x.m) ∧
  w.cell? ⟨b, o + 4, none⟩ = some (.int .i64 x.p) ∧ (∃ ka kc, w.cell? ⟨b, o + 5, none⟩ = some (.slice ka x.ks.length kc) ∧ IntsAt w ka x.ks) ∧ w.cell? ⟨b, o + 6, none⟩ = some (.int .i64 x.h) ∧ w.cell? ⟨b, o + 7, none⟩ = some (.bool x.c)

theorem NdAt.below {w w' : World} {b o : Nat} {x : Nd} (h : NdAt w b o x) (hb : Below w.heap.size w w') : NdAt w' b o x := by
  obtain ⟨c0, c1, c2, c3, c4, ⟨ka, kc, c5, hk⟩, c6, c7⟩ := h
  have hlt : b < w.heap.size := World.block_lt_of_cell? w ⟨b, o, none⟩ c0
  exact ⟨(hb.cell hlt).trans c0, (hb.cell hlt).trans c1, (hb.cell hlt).trans c2, (hb.cell hlt).trans c3, (hb.cell hlt).trans c4, ⟨ka, kc, (hb.cell hlt).trans c5, hk.below hb⟩, (hb.cell hlt).trans c6, (hb.cell hlt).trans c7⟩

/-- A slice of nodes: its length is the list's; where it has any, it leads to their cells. -/
def NdsAt (w : World) (a : Option Addr) (S : List Nd) : Prop :=
  ∀ i, i < S.length → ∃ b o, a = some ⟨b, o, none⟩ ∧ NdAt w b (o + i * 8) (nd S i)

theorem NdsAt.below {w w' : World} {a : Option Addr} {S : List Nd} (h : NdsAt w a S) (hb : Below w.heap.size w w') : NdsAt w' a S := fun i hi => by
  obtain ⟨b, o, e, hn⟩ := h i hi
  exact ⟨b, o, e, hn.below hb⟩

/-- No list of children is longer than a slice can be. -/
def Big (S : List Nd) : Prop := ∀ i, i < S.length → (nd S i).ks.length ≤ 9223372036854775807

def FitK (S : List Nd) (i : Nat) (x : Int) : Prop := x ≠ -1 ∧ (nd S x.toNat).u = true ∧ (nd S x.toNat).p = i
def FitU (S : List Nd) (k : Nat) : Prop := ∀ i, i < k → ∀ x ∈ (nd S i).ks, FitK S i x
def cntU (S : List Nd) (k j : Nat) : Nat := ((S.take k).flatMap Nd.ks).count (j : Int)
def cntK (l : List Int) (q j : Nat) : Nat := (l.take q).count (j : Int)
def KidsOk (S : List Nd) : Prop := FitU S S.length ∧ ∀ j, j < S.length → cntU S S.length j ≤ 1 ∧ ((nd S j).p ≠ -1 → cntU S S.length j ≠ 0)

theorem nd_elem {S : List Nd} {i : Nat} (h : i < S.length) : nd S i = S[i] := getD_elem S zeroNd h

theorem cntU_zero (S : List Nd) (j : Nat) : cntU S 0 j = 0 := by simp [cntU]
theorem cntU_succ (S : List Nd) (k j : Nat) (h : k < S.length) : cntU S (k + 1) j = cntU S k j + (nd S k).ks.count (j : Int) := by
  unfold cntU
  rw [List.take_succ_eq_append_getElem h, List.flatMap_append, List.count_append, nd_elem h]
  simp
theorem cntK_zero (l : List Int) (j : Nat) : cntK l 0 j = 0 := by simp [cntK]
theorem cntK_all (l : List Int) (j : Nat) : cntK l l.length j = l.count (j : Int) := by simp [cntK]
theorem cntK_succ (l : List Int) (q j : Nat) (h : q < l.length) : cntK l (q + 1) j = cntK l q j + (if l.getD q 0 = (j : Int) then 1 else 0) := by
  unfold cntK
  rw [List.take_succ_eq_append_getElem h, List.count_append, getD_elem l 0 h]
  by_cases e : l[q] = (j : Int) <;> simp [e]
theorem cntK_le (l : List Int) (q j : Nat) : cntK l q j ≤ q := by
  unfold cntK
  exact Nat.le_trans List.count_le_length (by rw [List.length_take]; omega)

theorem cntU_other (S : List Nd) (k j : Nat) (hk : k ≤ S.length) (hF : FitU S k) (hp : (nd S j).p = k) : cntU S k j = 0 := by
  unfold cntU
  rw [List.count_eq_zero]
  intro hm
  obtain ⟨y, hy, hj⟩ := List.mem_flatMap.1 hm
  obtain ⟨i, hi, rfl⟩ := List.getElem_of_mem hy
  rw [List.length_take] at hi
  have h3 := hF i (by omega) (j : Int) (by rw [nd_elem (by omega)]; simpa using hj)
  have := h3.2.2
  simp only [Int.toNat_natCast] at this
  omega
end Go.Proofs.Ytplkfacaphejgaa
