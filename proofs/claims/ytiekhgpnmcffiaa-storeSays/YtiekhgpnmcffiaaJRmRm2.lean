/-
  copy over elements of several cells; slices.Repeat of one node that is not in use.
-/
import Derived.Test.YtiekhgpnmcffiaaJTd
import Derived.Laws.CopyOwn
import Derived.Laws.EntriesVeiled
namespace Go.Proofs.Ytiekhgpnmcffiaa
open Go.RowKit

theorem run_copy_wide {P : Program} (w : World) (dT sT ty elem : TypeId) (i : TypeInfo) (g o dLen dCap : Nat) (a : Addr) (sLen sCap n : Nat) (cur : Array Value) (t : TypeId) (cs : List Value)
    (hu : P.underlying dT = some (.slice elem)) (hi : P.info? elem = some i) (hg : w.heap[g]? = some (.cells cur t (0, 0))) (hn : n = Nat.min sLen dLen) (hl : cs.length = n * i.size)
    (hsrc : ∀ j v, cs[j]? = some v → w.cell? (a.add j) = some v) (hfit : o + cs.length ≤ cur.size) (h1 : ∀ v ∈ cs, v.oneCell' = true) :
    (Builtin.copy_ #[dT, sT] ty #[.slice (some ⟨g, o, none⟩) dLen dCap, .slice (some a) sLen sCap]).run P w = .ok (goInt n) (w.setRow g (cur.toList.take o ++ cs ++ cur.toList.drop (o + cs.length)).toArray) := by
  have hf := run_firstCells_some (P := P) w i.size n a sLen sCap cs hl hsrc
  have hst := run_storeCells_at P g o t cs 0 cur w hg (by simpa using hfit) h1
  simp only [Nat.add_zero] at hst
  simp [Builtin.copy_, run_underlying hu, Builtin.lenOf, sizeOf, typeInfo, hi, ← hn, hf, hst]

theorem wpList_copy_wide {P : Program} {w : World} {ops : Array Oper} {rest : List Oper} {o : Oper} {a : Act} {Q : Exit → Act → World → Prop} (hgd : o.guard = none) (d s : Operand) (dT sT : TypeId)
    (ho : o.op = .call { callee := .builtin .copy, args := #[d, s], argTypes := #[dT, sT] }) (elem : TypeId) (i : TypeInfo) (hu : P.underlying dT = some (.slice elem)) (hi : P.info? elem = some i)
    (g off dLen dCap : Nat) (ad : Addr) (sLen sCap n : Nat) (hd : a.eval d = .slice (some ⟨g, off, none⟩) dLen dCap) (hs : a.eval s = .slice (some ad) sLen sCap)
    (cur : List Value) (t : TypeId) (hg : w.heap[g]? = some (.cells cur.toArray t (0, 0))) (cs : List Value) (hn : n = Nat.min sLen dLen) (hl : cs.length = n * i.size)
    (hsrc : ∀ j v, cs[j]? = some v → w.cell? (ad.add j) = some v) (hfit : off + cs.length ≤ cur.length) (h1 : ∀ v ∈ cs, v.oneCell' = true)
    (h : ∀ w', w'.heap[g]? = some (.cells (cur.take off ++ cs ++ cur.drop (off + cs.length)).toArray t (0, 0)) → (∀ B w0, Below B w0 w → B ≤ g → Below B w0 w') → wpList P ops Q rest (a.put o.dst (goInt n)) w') : wpList P ops Q (o :: rest) a w := by
  refine wpList_plain hgd fun K hK => ?_
  have hrun := run_copy_wide (P := P) w dT sT o.type elem i g off dLen dCap ad sLen sCap n cur.toArray t cs hu hi hg hn hl hsrc (by simpa using hfit) h1
  unfold Oper.wp
  simp [execOp, ho, resolve, invoke, builtin, hd, hs, hrun, Result.andThen]
  refine hK _ _ (h _ ?_ (fun B w0 hb hB => below_setRow hb hB _))
  have := setRow_heap w g cur.toArray ((cur.toArray.toList.take off ++ cs ++ cur.toArray.toList.drop (off + cs.length)).toArray) t _ hg
  simpa using this

theorem step_copy_wide {P : Program} {ops : Array Oper} {o : Oper} {a : Act} {w : World} {K : Act → World → Prop} {Q : Exit → Act → World → Prop} {E : Prop} (hgd : o.guard = none) (d s : Operand) (dT sT : TypeId)
    (ho : o.op = .call { callee := .builtin .copy, args := #[d, s], argTypes := #[dT, sT] }) (elem : TypeId) (i : TypeInfo) (hu : P.underlying dT = some (.slice elem)) (hi : P.info? elem = some i)
    (g off dLen dCap : Nat) (ad : Addr) (sLen sCap n : Nat) (hd : a.eval d = .slice (some ⟨g, off, none⟩) dLen dCap) (hs : a.eval s = .slice (some ad) sLen sCap)
    (cur : List Value) (t : TypeId) (hg : w.heap[g]? = some (.cells cur.toArray t (0, 0))) (cs : List Value) (hn : n = Nat.min sLen dLen) (hl : cs.length = n * i.size)
    (hsrc : ∀ j v, cs[j]? = some v → w.cell? (ad.add j) = some v) (hfit : off + cs.length ≤ cur.length) (h1 : ∀ v ∈ cs, v.oneCell' = true)
    (h : ∀ w', w'.heap[g]? = some (.cells (cur.take off ++ cs ++ cur.drop (off + cs.length)).toArray t (0, 0)) → (∀ B w0, Below B w0 w → B ≤ g → Below B w0 w') → K (a.put o.dst (goInt n)) w') :
    if Region.wanted o (yielded ops a.tmps) = true then Oper.wp P o a w K Q else E := by
  have hw : Region.wanted o (yielded ops a.tmps) = true := by simp [Region.wanted, hgd]
  rw [if_pos hw]
  have hrun := run_copy_wide (P := P) w dT sT o.type elem i g off dLen dCap ad sLen sCap n cur.toArray t cs hu hi hg hn hl hsrc (by simpa using hfit) h1
  unfold Oper.wp
  simp [execOp, ho, resolve, invoke, builtin, hd, hs, hrun, Result.andThen]
  refine h _ ?_ (fun B w0 hb hB => below_setRow hb hB _)
  have := setRow_heap w g cur.toArray ((cur.toArray.toList.take off ++ cs ++ cur.toArray.toList.drop (off + cs.length)).toArray) t _ hg
  simpa using this

/-- The first j of a row's nodes are as one that is not in use. -/
def patV : Nat → Value
  | 0 => .bool false
  | 4 => .int .i64 (-1)
  | 5 => .slice none 0 0
  | 6 => .int .i64 (-1)
  | 7 => .bool false
  | _ => .int .i64 0
def Good (X : List Value) (j : Nat) : Prop := ∀ m, m < j * 8 → X[m]? = some (patV (m % 8))

theorem pat_one (m : Nat) : (patV m).oneCell' = true := by
  unfold patV
  split <;> rfl

theorem Good.copy {X : List Value} {j m : Nat} (h : Good X j) (hm : m ≤ j) (hl : (j + m) * 8 ≤ X.length) : Good (X.take (j * 8) ++ X.take (m * 8) ++ X.drop (j * 8 + (X.take (m * 8)).length)) (j + m) := by
  have l1 : (X.take (j * 8)).length = j * 8 := by rw [List.length_take]; omega
  have l2 : (X.take (m * 8)).length = m * 8 := by rw [List.length_take]; omega
  intro i hi
  rw [List.append_assoc]
  by_cases h1 : i < j * 8
  · rw [List.getElem?_append_left (by rw [l1]; exact h1), List.getElem?_take, if_pos h1]
    exact h i h1
  · rw [List.getElem?_append_right (by rw [l1]; omega), l1, List.getElem?_append_left (by rw [l2]; omega), List.getElem?_take, if_pos (by omega), h _ (by omega)]
    congr 2
    omega

theorem Good.one {X Y : List Value} (hY : Good Y 1) (hl : Y.length = 8) : Good (X.take 0 ++ Y ++ X.drop (0 + Y.length)) 1 := by
  intro i hi
  rw [List.append_assoc, List.take_zero, List.nil_append, List.getElem?_append_left (by omega)]
  exact hY i hi

theorem good_nds {w : World} {g n : Nat} {X : List Value} (hg : w.heap[g]? = some (.cells X.toArray 38 (0, 0))) (hG : Good X n) : NdsAt w (some ⟨g, 0, none⟩) (List.replicate n unusedNd) := fun i hi => by
  have hi' : i < n := by simpa using hi
  have e : nd (List.replicate n unusedNd) i = unusedNd := by unfold nd; simp [List.getD, hi']
  refine ⟨g, 0, rfl, ?_⟩
  rw [e, Nat.zero_add]
  have hc : ∀ j, j < 8 → w.cell? ⟨g, i * 8 + j, none⟩ = some (patV j) := fun j hj => by
    have := hG (i * 8 + j) (by omega)
    rw [show (i * 8 + j) % 8 = j by omega] at this
    simp only [World.cell?, hg]
    simpa using this
  exact ⟨hc 0 (by omega), hc 1 (by omega), hc 2 (by omega), hc 3 (by omega), hc 4 (by omega), ⟨none, 0, hc 5 (by omega), fun j hj => absurd hj (Nat.not_lt_zero _)⟩, hc 6 (by omega), hc 7 (by omega)⟩
end Go.Proofs.Ytiekhgpnmcffiaa

namespace Go.Proofs.Ytiekhgpnmcffiaa
open Go.RowKit

set_option maxHeartbeats 4000000 in
theorem mul_one (n : Nat) (hn : n ≤ 24) (w : World) :
    Calls Try.prog 53 #[.int .u64 1, .int .u64 n] w fun e w' => e = .returned (.tuple #[.int .u64 0, .int .u64 n]) ∧ w' = w := by
  have h : n = 0 ∨ n = 1 ∨ n = 2 ∨ n = 3 ∨ n = 4 ∨ n = 5 ∨ n = 6 ∨ n = 7 ∨ n = 8 ∨ n = 9 ∨ n = 10 ∨ n = 11 ∨ n = 12 ∨ n = 13 ∨ n = 14 ∨ n = 15 ∨ n = 16 ∨ n = 17 ∨ n = 18 ∨ n = 19 ∨ n = 20 ∨ n = 21 ∨ n = 22 ∨ n = 23 ∨ n = 24 := by omega
  rcases h with rfl | rfl | rfl | rfl | rfl | rfl | rfl | rfl | rfl | rfl | rfl | rfl | rfl | rfl | rfl | rfl | rfl | rfl | rfl | rfl | rfl | rfl | rfl | rfl | rfl
  all_goals
    go_enter Try.func53, Try.ntmps53
    go_wp2
    refine bodyPost_ret ?_ rfl ⟨rfl, rfl⟩
    simp [results, Try.results53, go_sem]
    kernel_rfl

end Go.Proofs.Ytiekhgpnmcffiaa
