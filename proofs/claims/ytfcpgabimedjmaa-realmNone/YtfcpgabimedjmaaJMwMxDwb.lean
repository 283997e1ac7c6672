/-
  copy over elements of several cells.
-/
import Derived.Test.YtfcpgabimedjmaaJSaSb
import Derived.Laws.CopyOwn
import Derived.Laws.EntriesVeiled
import Derived.Test.YtfcpgabimedjmaaJDwhDwa
import Derived.Test.YtfcpgabimedjmaaJOwCw
import Derived.Test.YtfcpgabimedjmaaJZf
namespace Go.Proofs.Ytfcpgabimedjmaa
open Go.RowKit

theorem run_copy_wide {P : Program} (w : World) (dT sT ty elem : TypeId) (i : TypeInfo) (g o dLen dCap : Nat) (a : Addr) (sLen sCap n : Nat) (cur : Array Value) (t : TypeId) (cs : List Value)
    (hu : P.underlying dT = some (.slice elem)) (hi : P.info? elem = some i) (hg : w.heap[g]? = some (.cells cur t (0, 0))) (hn : n = Nat.min sLen dLen) (hl : cs.length = n * i.size)
    (hsrc : ∀ j v, cs[j]? = some v → w.cell? (a.add j) = some v) (hfit : o + cs.length ≤ cur.size) (h1 : ∀ v ∈ cs, v.oneCell' = true) :
    (Builtin.copy_ #[dT, sT] ty #[.slice (some ⟨g, o, none⟩) dLen dCap, .slice (some a) sLen sCap]).run P w = .ok (goInt n) (w.setRow g (cur.toList.take o ++ cs ++ cur.toList.drop (o + cs.length)).toArray) := by
  have hf := run_firstCells_some (P := P) w i.size n a sLen sCap cs hl hsrc
  have hst := run_storeCells_at P g o t cs 0 cur w hg (by simpa using hfit) h1
  simp only [Nat.add_zero] at hst
  simp [Builtin.copy_, run_underlying hu, Builtin.lenOf, sizeOf, typeInfo, hi, ← hn, hf, hst]

theorem wpList_copy_wide {P : Program} {w : World} {ops : Array Oper} {rest : List Oper} {o : Oper} {a : Act} {Q : Exit → Act → World → Prop} (hgd : o.guard = none) (d s : Operand) (dT sT : TypeId)
    (ho : o.op = .call { callee := .builtin .copy, args := #[d, s], argTypes := #[dT, sT] }) (elem : TypeId) (i : TypeInfo) (hu : P.underlying dT = some (.slice elem)) (hi : P.info? elem = some i)
    (g off dLen dCap : Nat) (ad : Addr) (sLen sCap n : Nat) (hd : a.eval d = .slice (some ⟨g, off, none⟩) dLen dCap) (hs : a.eval s = .slice (some ad) sLen sCap)
    (cur : List Value) (t : TypeId) (hg : w.heap[g]? = some (.cells cur.toArray t (0, 0))) (cs : List Value) (hn : n = Nat.min sLen dLen) (hl : cs.length = n * i.size)
    (hsrc : ∀ j v, cs[j]? = some v → w.cell? (ad.add j) = some v) (hfit : off + cs.length ≤ cur.length) (h1 : ∀ v ∈ cs, v.oneCell' = true)
    (h : ∀ w', w'.heap[g]? = some (.cells (cur.take off ++ cs ++ cur.drop (off + cs.length)).toArray t (0, 0)) → (∀ B w0, Below B w0 w → B ≤ g → Below B w0 w') → wpList P ops Q rest (a.put o.dst (goInt n)) w') : wpList P ops Q (o :: rest) a w := by
  refine wpList_plain hgd fun K hK => ?_
  have hrun := run_copy_wide (P := P) w dT sT o.type elem i g off dLen dCap ad sLen sCap n cur.toArray t cs hu hi hg hn hl hsrc (by simpa using hfit) h1
  unfold Oper.wp
  simp [execOp, ho, resolve, invoke, builtin, hd, hs, hrun, Result.andThen]
  refine hK _ _ (h _ ?_ (fun B w0 hb hB => below_setRow hb hB _))
  have := setRow_heap w g cur.toArray ((cur.toArray.toList.take off ++ cs ++ cur.toArray.toList.drop (off + cs.length)).toArray) t _ hg
  simpa using this

theorem step_copy_wide {P : Program} {ops : Array Oper} {o : Oper} {a : Act} {w : World} {K : Act → World → Prop} {Q : Exit → Act → World → Prop} {E : Prop} (hgd : o.guard = none) (d s : Operand) (dT sT : TypeId)
    (ho : o.op = .call { callee := .builtin .copy, args := #[d, s], argTypes := #[dT, sT] }) (elem : TypeId) (i : TypeInfo) (hu : P.underlying dT = some (.slice elem)) (hi : P.info? elem = some i)
    (g off dLen dCap : Nat) (ad : Addr) (sLen sCap n : Nat) (hd : a.eval d = .slice (some ⟨g, off, none⟩) dLen dCap) (hs : a.eval s = .slice (some ad) sLen sCap)
    (cur : List Value) (t : TypeId) (hg : w.heap[g]? = some (.cells cur.toArray t (0, 0))) (cs : List Value) (hn : n = Nat.min sLen dLen) (hl : cs.length = n * i.size)
    (hsrc : ∀ j v, cs[j]? = some v → w.cell? (ad.add j) = some v) (hfit : off + cs.length ≤ cur.length) (h1 : ∀ v ∈ cs, v.oneCell' = true)
    (h : ∀ w', w'.heap[g]? = some (.cells (cur.take off ++ cs ++ cur.drop (off + cs.length)).toArray t (0, 0)) → (∀ B w0, Below B w0 w → B ≤ g → Below B w0 w') → K (a.put o.dst (goInt n)) w') :
    if Region.wanted o (yielded ops a.tmps) = true then Oper.wp P o a w K Q else E := by
  have hw : Region.wanted o (yielded ops a.tmps) = true := by simp [Region.wanted, hgd]
  rw [if_pos hw]
  have hrun := run_copy_wide (P := P) w dT sT o.type elem i g off dLen dCap ad sLen sCap n cur.toArray t cs hu hi hg hn hl hsrc (by simpa using hfit) h1
  unfold Oper.wp
  simp [execOp, ho, resolve, invoke, builtin, hd, hs, hrun, Result.andThen]
  refine h _ ?_ (fun B w0 hb hB => below_setRow hb hB _)
  have := setRow_heap w g cur.toArray ((cur.toArray.toList.take off ++ cs ++ cur.toArray.toList.drop (off + cs.length)).toArray) t _ hg
  simpa using this

end Go.Proofs.Ytfcpgabimedjmaa

namespace Go.Proofs.Ytfcpgabimedjmaa
open Go.RowKit Go.ChangeShapes Go.WideShapes
set_option linter.unusedVariables false

theorem run_copy_noneW {P : Program} (w : World) (dT sT ty elem : TypeId) (i : TypeInfo) (d a : Option Addr) (dLen dCap sLen sCap : Nat) (hu : P.underlying dT = some (.slice elem)) (hq : P.info? elem = some i) (hn : Nat.min sLen dLen = 0) :
    (Builtin.copy_ #[dT, sT] ty #[.slice d dLen dCap, .slice a sLen sCap]).run P w = .ok (goInt 0) w := by
  have hl : ∀ (x : Addr), (loadCells x 0).run P w = .ok #[] w := fun x => by simpa using run_loadCells_list (P := P) w x [] (by simp)
  cases d <;> cases a <;> simp [Builtin.copy_, run_underlying hu, Builtin.lenOf, Builtin.firstCells, sizeOf, typeInfo, hq, hn, storeCells, hl]
/-- copy of all of a slice, nil too, into a row of the same length. -/
theorem wpList_copy_rows {P : Program} {w : World} {ops : Array Oper} {rest : List Oper} {o : Oper} {a : Act} {Q : Exit → Act → World → Prop} (hgd : o.guard = none) (d s : Operand) (dT sT : TypeId)
    (ho : o.op = .call { callee := .builtin .copy, args := #[d, s], argTypes := #[dT, sT] }) (elem : TypeId) (i : TypeInfo) (size : Nat) (hu : P.underlying dT = some (.slice elem)) (hi : P.info? elem = some i) (hz : i.size = size)
    (g n dCap : Nat) (sa : Option Addr) (sCap : Nat) (hd : a.eval d = .slice (some ⟨g, 0, none⟩) n dCap) (hs : a.eval s = .slice sa n sCap)
    (cur : List Value) (t : TypeId) (hg : w.heap[g]? = some (.cells cur.toArray t (0, 0))) (cs : List Value) (hl : cs.length = n * size) (hcur : cur.length = n * size) (hnil : sa = none → n = 0)
    (hsrc : ∀ ad, sa = some ad → ∀ j v, cs[j]? = some v → w.cell? (ad.add j) = some v) (h1 : ∀ v ∈ cs, v.oneCell' = true)
    (h : ∀ w', Hid (w'.heap[g]? = some (.cells cs.toArray t (0, 0))) → Hid (∀ B w0, Below B w0 w → B ≤ g → Below B w0 w') → wpList P ops Q rest (a.put o.dst (goInt n)) w') : wpList P ops Q (o :: rest) a w := by
  subst hz
  by_cases h0 : n = 0
  · subst h0
    rw [Nat.zero_mul] at hl hcur
    obtain rfl : cs = [] := List.eq_nil_of_length_eq_zero hl
    obtain rfl : cur = [] := List.eq_nil_of_length_eq_zero hcur
    refine wpList_plain hgd fun K hK => ?_
    have hrun := run_copy_noneW (P := P) w dT sT o.type elem i (some ⟨g, 0, none⟩) sa 0 dCap 0 sCap hu hi rfl
    unfold Oper.wp
    simp [execOp, ho, resolve, invoke, builtin, hd, hs, hrun, Result.andThen]
    exact hK _ _ (h w hg (fun _ _ hb _ => hb))
  · cases sa with
    | none => exact absurd (hnil rfl) h0
    | some ad =>
      refine wpList_copy_wide hgd d s dT sT ho elem i hu hi g 0 n dCap ad n sCap n hd hs cur t hg cs (Nat.min_self n).symm hl (hsrc ad rfl) (by omega) h1 (fun w' hw hb => h w' ?_ hb)
      show _ = _
      rw [hw]
      simp [hl, hcur]

end Go.Proofs.Ytfcpgabimedjmaa

namespace Go.Proofs.Ytfcpgabimedjmaa
open Go.RowKit Go.ChangeShapes Go.WideShapes
set_option linter.unusedVariables false

theorem St.grow {X Y : Nat → Prop} {P : World → Prop} {w w1 : World} (h : St X P w) (ho : OffX X w w1) (hY : ∀ b, b < w.heap.size → Y b → X b) : St Y P w1 := fun w' h2 => h w' (off_grow ho.size ho.block hY h2)
/-- Hands, cell by cell. -/
def hcF (hs : List (Int × Int)) : Nat → Value := fun j => .int .i64 (if j % 2 = 0 then (hs.getD (j / 2) (0, 0)).1 else (hs.getD (j / 2) (0, 0)).2)
theorem hcF_0 (hs : List (Int × Int)) (i : Nat) : hcF hs (i * 2) = .int .i64 (hs.getD i (0, 0)).1 := by
  unfold hcF
  rw [if_pos (by omega), show i * 2 / 2 = i by omega]
theorem hcF_1 (hs : List (Int × Int)) (i : Nat) : hcF hs (i * 2 + 1) = .int .i64 (hs.getD i (0, 0)).2 := by
  unfold hcF
  rw [if_neg (by omega), show (i * 2 + 1) / 2 = i by omega]
theorem hands_row {w : World} {h : Nat} {hs : List (Int × Int)} (hr : w.rowIs h 39 (hs.length * 2) (hcF hs)) : HandsAt w (some ⟨h, 0, none⟩) hs := fun i hi => by
  refine ⟨h, 0, rfl, ?_, ?_⟩
  · rw [Nat.zero_add, hr.cell (by omega), hcF_0]
  · rw [Nat.zero_add, hr.cell (by omega), hcF_1]
/-- One hand set. -/
theorem hcF_set (hs : List (Int × Int)) (k : Nat) (x : Int × Int) (hk : k < hs.length) : (fun j => if j = k * 2 + 1 then Value.int .i64 x.2 else if j = k * 2 then Value.int .i64 x.1 else hcF hs j) = hcF (hs.set k x) := by
  have key : ∀ i, (hs.set k x).getD i (0, 0) = if i = k then x else hs.getD i (0, 0) := fun i => by
    by_cases e : i = k
    · subst e
      rw [if_pos rfl]
      simp [List.getD_eq_getElem?_getD, hk]
    · rw [if_neg e]
      exact getD_set _ _ _ _ _ e
  funext j
  unfold hcF
  rw [key]
  by_cases h1 : j = k * 2 + 1
  · subst h1
    rw [if_pos rfl, if_neg (by omega), if_pos (by omega)]
  · rw [if_neg h1]
    by_cases h2 : j = k * 2
    · subst h2
      rw [if_pos rfl, if_pos (by omega), if_pos (by omega)]
    · rw [if_neg h2, if_neg (show ¬ j / 2 = k by omega)]

/-- What copyRealm answers: hands in row h, the store in row g. -/
structure CI (w : World) (R : Rl) (h g : Nat) (A : RA) (V : World) : Prop where
  bel : Below w.heap.size w V
  h0 : w.heap.size ≤ h
  g0 : w.heap.size ≤ g
  hg : h ≠ g
  a0 : A.a0 = some ⟨g, 0, none⟩
  a1 : A.a1 = some ⟨h, 0, none⟩
  row : V.rowIs h 39 (R.hs.length * 2) (hcF R.hs)
  own : OwnR V g R.s
  sto : St (fun b => b = h) (fun V => NdsAt V (some ⟨g, 0, none⟩) R.s) V
  cls : St (fun b => b = h ∨ b = g) (fun V => ClsAt V A.a2 R.i) V
  tld : St (fun b => b = h ∨ b = g) (fun V => IntsAt V A.a3 R.t) V
/-- What a deed finds: the realm's box d, hands in row h, the store in row g. -/
structure WI (w : World) (R : Rl) (d h g : Nat) (A : RA) (V : World) : Prop where
  bel : Below w.heap.size w V
  d0 : w.heap.size ≤ d
  h0 : w.heap.size ≤ h
  g0 : w.heap.size ≤ g
  hg : h ≠ g
  dh : h ≠ d
  gd : g ≠ d
  a0 : A.a0 = some ⟨g, 0, none⟩
  a1 : A.a1 = some ⟨h, 0, none⟩
  box : V.heap[d]? = some (bxR A R)
  row : V.rowIs h 39 (R.hs.length * 2) (hcF R.hs)
  own : OwnR V g R.s
  sto : St (fun b => b = d ∨ b = h) (fun V => NdsAt V (some ⟨g, 0, none⟩) R.s) V
  cls : St (fun b => b = d ∨ b = h ∨ b = g) (fun V => ClsAt V A.a2 R.i) V
  tld : St (fun b => b = d ∨ b = h ∨ b = g) (fun V => IntsAt V A.a3 R.t) V
theorem CI.wi {w V : World} {R : Rl} {h g : Nat} {A : RA} (I : CI w R h g A V) : WI w R V.heap.size h g A (V.alloc (.cells #[.slice A.a0 R.s.length A.c0, .slice A.a1 R.hs.length A.c1, .slice A.a2 R.i.length A.c2, .slice A.a3 R.t.length A.c3] 31)) := by
  have hb := one_belowS V (.cells #[.slice A.a0 R.s.length A.c0, .slice A.a1 R.hs.length A.c1, .slice A.a2 R.i.length A.c2, .slice A.a3 R.t.length A.c3] 31)
  have hl := I.row.lt
  have gl : g < V.heap.size := by obtain ⟨F, hF, _⟩ := I.own; exact hF.lt
  exact ⟨I.bel.trans (hb.mono I.bel.size), I.bel.size, I.h0, I.g0, I.hg, by omega, by omega, I.a0, I.a1, box4_new _ _ _ _ _ _, I.row.of_block (hb.block h hl), I.own.up (fun b _ hb2 => hb.block b hb2), I.sto.grow (OffX.of_below hb) (fun b hb2 hy => hy.elim (fun e => absurd e (by omega)) id), I.cls.grow (OffX.of_below hb) (fun b hb2 hy => hy.elim (fun e => absurd e (by omega)) id), I.tld.grow (OffX.of_below hb) (fun b hb2 hy => hy.elim (fun e => absurd e (by omega)) id)⟩
theorem WI.below {w V V' : World} {R : Rl} {d h g : Nat} {A : RA} (I : WI w R d h g A V) (hb : Below V.heap.size V V') : WI w R d h g A V' :=
  ⟨I.bel.trans (hb.mono I.bel.size), I.d0, I.h0, I.g0, I.hg, I.dh, I.gd, I.a0, I.a1, keepB I.box hb, I.row.of_block (hb.block h I.row.lt), I.own.up (fun b _ hb2 => hb.block b hb2), I.sto.off (OffX.of_below hb), I.cls.off (OffX.of_below hb), I.tld.off (OffX.of_below hb)⟩
theorem WI.nds {w V : World} {R : Rl} {d h g : Nat} {A : RA} (I : WI w R d h g A V) : NdsAt V (some ⟨g, 0, none⟩) R.s := I.sto.at
/-- Hand k. -/
theorem WI.hand {w V : World} {R : Rl} {d h g : Nat} {A : RA} (I : WI w R d h g A V) {k : Nat} (hk : k < R.hs.length) : V.cell? ⟨h, k * 2, none⟩ = some (.int .i64 (hd R k).1) ∧ V.cell? ⟨h, k * 2 + 1, none⟩ = some (.int .i64 (hd R k).2) := by
  have e : hd R (k : Int) = R.hs.getD k (0, 0) := by unfold hd; rw [Int.toNat_natCast]
  rw [e]
  exact ⟨by rw [I.row.cell (by omega), hcF_0], by rw [I.row.cell (by omega), hcF_1]⟩

theorem OwnR.mark {w : World} {g : Nat} {S : List Nd} {k : Nat} (h : OwnR w g S) (hk : k < S.length) (n : Int) : OwnR (w.setCell ⟨g, k * 8 + 3, none⟩ (.int .i64 n)) g (S.set k { nd S k with m := n }) := by
  obtain ⟨F, hF, hN⟩ := h
  refine ⟨_, by rw [List.length_set]; exact hF.set (k * 8 + 3) (.int .i64 n), fun i hi => ?_⟩
  rw [List.length_set] at hi
  obtain ⟨kb, kc, ⟨e0, e1, e2, e3, e4, e5, e6, e7, e8, e8b, G, hG, e9⟩, hkb⟩ := hN i hi
  have hG2 := hG.setOther (a := ⟨g, k * 8 + 3, none⟩) (by simp; omega) (.int .i64 n)
  refine ⟨kb, kc, ?_, hkb⟩
  rw [nd_set S k i _ hk]
  by_cases e : i = k
  · subst e
    rw [if_pos rfl]
    refine ⟨?_, ?_, ?_, ?_, ?_, ?_, ?_, ?_, e8, e8b, G, hG2, e9⟩
    all_goals dsimp only
    · rw [if_neg (by omega), e0]
    · rw [if_neg (by omega), e1]
    · rw [if_neg (by omega), e2]
    · rw [if_pos rfl]
    · rw [if_neg (by omega), e4]
    · rw [if_neg (by omega), e5]
    · rw [if_neg (by omega), e6]
    · rw [if_neg (by omega), e7]
  · rw [if_neg e]
    refine ⟨?_, ?_, ?_, ?_, ?_, ?_, ?_, ?_, e8, e8b, G, hG2, e9⟩
    all_goals
      dsimp only
      rw [if_neg (by omega)]
      assumption
end Go.Proofs.Ytfcpgabimedjmaa
